/- PackBack: whatever rows are written, sizes changed between, an unpacker reads them, block by block, and has the same table. -/
import Derived.Test.YtlkinjlbaeigdaaSz9
import Derived.Test.YtlkinjlbaeigdaaRows
import Derived.Test.YtlkinjlbaeigdaaLupL8
import Derived.Test.YtlkinjlbaeigdaaLpkE
import Derived.Test.YtlkinjlbaeigdaaLwit
set_option maxRecDepth 20000
set_option linter.unusedSimpArgs false
set_option linter.unusedVariables false
namespace Go.Proofs.Ytlkinjlbaeigdaa.pb
open Go Go.Ev Go.Sy Go.RowKit Go.Proofs.Ytlkinjlbaeigdaa.gl Go.Proofs.Ytlkinjlbaeigdaa.tk Go.Proofs.Ytlkinjlbaeigdaa.hf Go.Proofs.Ytlkinjlbaeigdaa.s3 Go.Proofs.Ytlkinjlbaeigdaa.tb Go.Proofs.Ytlkinjlbaeigdaa.up
open Go.Proofs.Ytlkinjlbaeigdaa.pk (rowL rowU hdL txL blk szs wOk)
structure Ak where
  k : Int
  n : Int
  l : List PW
noncomputable def enK (a : Ak) : List Value := [.int .i64 a.k, .int .i64 a.n, .slice (some ⟨gCode (gC Go.Proofs.Ytlkinjlbaeigdaa.pk.enW a.l), 0, some 0⟩) a.l.length 3]
def AkOk (a : Ak) : Prop := (I64 a.k ∧ I64 a.n) ∧ wOk a.l
noncomputable def eWiB : EntM := entC 23 fun a r => match a, r with
  | [.int .i64 n, .int .i64 lo, .int .i64 hi], [] => some (I64 n ∧ -1000000000000 ≤ lo ∧ hi ≤ 1000000000000 ∧ lo ≤ hi, .int .i64 (Go.Proofs.Ytlkinjlbaeigdaa.tk.inside n lo hi), [])
  | _, _ => none
def pBo : List Nat := [0, 1, 0, 1, 1, 1, 1]
def pBi : List Nat := [0, 1, 0, 1, 1, 1, 1, 1, 0, 0, 1, 0, 0, 1, 0, 1, 1, 1, 1]
structure SB where
  i : Nat
  t : Tb
  b : Bool
  k : Int
  u : Tb
structure GB2 where
  l : List Ak
  s : SB
  a : Ak
  V : List Go.Proofs.Ytlkinjlbaeigdaa.up.Wr
noncomputable def slB (l : List Ak) (s : SB) : List (Nat × Value) := [(0, .slice (some ⟨0, 0, none⟩) l.length 3), (3, .pointer (some ⟨1, 0, none⟩)), (5, .pointer (some ⟨3, 0, none⟩)), (7, .int .i64 (s.i : Nat))]
noncomputable def rlB (l : List Ak) (s : SB) : List (Nat × Row) := [(0, gRo enK l), (1, ⟨[.pointer (some ⟨2, 0, none⟩), .bool s.b, .int .i64 s.k], false, .cells false⟩), (2, rd4 s.t.l.length (smZ s.t.l s.t.l.length : Nat) s.t.most 5), (3, rd1 4096 2147483647 false 4), (4, rd4 s.u.l.length (smZ s.u.l s.u.l.length : Nat) s.u.most 6), (5, gOwn enF (s.t.l ++ s.t.j)), (6, gOwn enF (s.u.l ++ s.u.j))]
noncomputable def wsB (l : List Ak) : List (Gate Unit) := [⟨.exit 0, fun _ => True, fun _ => [], fun _ => [(0, gRo enK l)], 7⟩, ⟨.ret, fun _ => False, fun _ => [(2, .bool false)], fun _ => [(0, gRo enK l)], 7⟩]
def s0B : SB := ⟨0, ⟨[], [], 4096⟩, false, 0, ⟨[], [], 4096⟩⟩
noncomputable def specB : Sy.Spec := specOf 1 7 140 (fun l : List Ak => ∀ a ∈ l, AkOk a) (fun l => slB l s0B) (fun l => rlB l s0B) wsB
noncomputable def mB := mOf [(5, pBo, specB)]
noncomputable def slBi (g : GB2) (j : Nat) : List (Nat × Value) := slB g.l g.s ++ [(8, .pointer (some ⟨7, 0, none⟩)), (9, .slice (some ⟨8, 0, none⟩) g.V.length 3), (11, .int .i64 (j : Nat))]
noncomputable def rlBi (g : GB2) : List (Nat × Row) := rlB g.l g.s ++ [(7, ⟨enK g.a, false, .cells false⟩), (8, gOwn enW g.V)]
noncomputable def wsBi (g : GB2) : List (Gate Unit) := [⟨.exit 2, fun _ => True, fun _ => slB g.l g.s, fun _ => rlB g.l g.s, 9⟩, ⟨.ret, fun _ => False, fun _ => [(2, .bool false)], fun _ => [(0, gRo enK g.l)], 9⟩]
def MatchW (V : List Go.Proofs.Ytlkinjlbaeigdaa.up.Wr) (w : List PW) : Prop := V.length = w.length ∧ w.length ≤ 1048576 ∧ ∀ (i : Nat) (h : i < V.length) (h2 : i < w.length), V[i].f = w[i].f ∧ (V[i].h = 3 ↔ w[i].h = 3)
noncomputable def specBi : Sy.Spec := specOf 1 9 140 (fun g : GB2 => MatchW g.V g.a.l) (fun g => slBi g 0) rlBi wsBi
noncomputable def mBi := mOf [(5, pBi, specBi)]
noncomputable def tB : List EntM := [eUb, Go.Proofs.Ytlkinjlbaeigdaa.pk.eBlk, Go.Proofs.Ytlkinjlbaeigdaa.pk.eLi, Go.Proofs.Ytlkinjlbaeigdaa.pk.eRunsP, eWiB, eResT]
noncomputable abbrev EtB : Env := envT Try.prog tB
theorem Bi_round (g : GB2) (j : Nat) (Inv : Nat → Prop) (m : Nat → Nat) : mev EtB noM 60 5 (0 :: pBi) false (codeOf Try.prog 5 (0 :: pBi)) ⟨mkOv (slBi g j), 140, []⟩ none ⟨mkR (rlBi g), 9⟩ (roundK 1 9 140 Inv m (slBi g) (fun _ => rlBi g) (wsBi g) j) =
  let z1 := (Array.mk [Value.string (cellS (gCells (gCode (gC pk.enW g.3.3))) (0 + Int.toNat (↑j : Int) * 3 + 0)), Value.string (cellS (gCells (gCode (gC pk.enW g.3.3))) (0
  + Int.toNat (↑j : Int) * 3 + 0 + 1))]); let z2 := (Array.mk [Value.string (cellS (gC enW g.4) (0 + Int.toNat (↑j : Int) * 3 + 0)), Value.string (cellS (gC enW g.4) (0 +
  Int.toNat (↑j : Int) * 3 + 0 + 1))]); let z3 := (Eq (α := Option Value) ((gCells (gCode (gC pk.enW g.3.3)))[0 + Int.toNat (↑j : Int) * 3 + 0 + 1]?) (some (Value.string
  (cellS (gCells (gCode (gC pk.enW g.3.3))) (0 + Int.toNat (↑j : Int) * 3 + 0 + 1))))); let z4 := (Eq (α := Option Value) ((gCells (gCode (gC pk.enW g.3.3)))[0 + Int.toNat
  (↑j : Int) * 3 + 0]?) (some (Value.string (cellS (gCells (gCode (gC pk.enW g.3.3))) (0 + Int.toNat (↑j : Int) * 3 + 0))))); let z5 := (Value.slice (some (Addr.mk (gCode
  (gC pk.enW g.3.3)) 0 (some 0))) (List.length g.3.3) 3 = Value.slice (some (Addr.mk (gCode (gC pk.enW g.3.3)) 0 (some 0))) (List.length g.3.3) 3); let z6 := (Eq (α :=
  Option Value) ((gC enW g.4)[0 + Int.toNat (↑j : Int) * 3 + 0 + 1]?) (some (Value.string (cellS (gC enW g.4) (0 + Int.toNat (↑j : Int) * 3 + 0 + 1))))); let z7 := (Eq (α :=
  Option Value) ((gC enW g.4)[0 + Int.toNat (↑j : Int) * 3 + 0]?) (some (Value.string (cellS (gC enW g.4) (0 + Int.toNat (↑j : Int) * 3 + 0))))); let z8 := (cellI (gCells
  (gCode (gC pk.enW g.3.3))) (0 + Int.toNat (↑j : Int) * 3 + 2)); let z19 := (cellI (gC enW g.4) (0 + Int.toNat (↑j : Int) * 3 + 2)); let z9 := (Eq (α := Option Value) ((gC
  enW g.4)[0 + Int.toNat (↑j : Int) * 3 + 2]?) (some (Value.int IntKind.i64 z19))); let z10 := (Eq (α := List Value) (gC enK g.1) (gC enK g.1)); let z11 := (Eq (α := Option
  Value) ((gCells (gCode (gC pk.enW g.3.3)))[0 + Int.toNat (↑j : Int) * 3 + 2]?) (some (Value.int IntKind.i64 z8))); let z12 := ((↑(smZ g.2.2.1 (List.length g.2.2.1)) : Int)
  = (↑(smZ g.2.2.1 (List.length g.2.2.1)) : Int)); let z13 := ((↑(smZ g.2.5.1 (List.length g.2.5.1)) : Int) = (↑(smZ g.2.5.1 (List.length g.2.5.1)) : Int)); let z14 := (Eq
  (α := List Value) (gC enF (g.2.2.1 ++ g.2.2.2)) (gC enF (g.2.2.1 ++ g.2.2.2))); let z15 := (Eq (α := List Value) (gC enF (g.2.5.1 ++ g.2.5.2)) (gC enF (g.2.5.1 ++
  g.2.5.2))); let z16 := (decide ((0 : Int) <= (↑j : Int) /\ (↑j : Int) < (↑(List.length g.3.3) : Int))); let z17 := (decide ((0 : Int) <= (↑j : Int) /\ (↑j : Int) <
  (↑(List.length g.4) : Int))); let z18 := ((False) /\ ((false = false) /\ (z10 /\ ((Plain (gC enK g.1)) /\ True)))); (br (decide ((↑j : Int) < Int.ofNat (List.length g.4)))
  (br z17 (z7 /\ (z6 /\ (br z16 (z4 /\ (z3 /\ (br (!(cellS (gC enW g.4) (0 + Int.toNat (↑j : Int) * 3 + 0) == cellS (gCells (gCode (gC pk.enW g.3.3))) (0 + Int.toNat (↑j :
  Int) * 3 + 0) && (cellS (gC enW g.4) (0 + Int.toNat (↑j : Int) * 3 + 0 + 1) == cellS (gCells (gCode (gC pk.enW g.3.3))) (0 + Int.toNat (↑j : Int) * 3 + 0 + 1) && true)))
  (z7 /\ (z6 /\ ((Value.agg z2 = Value.agg z2) /\ (z5 /\ (z4 /\ (z3 /\ ((Value.agg z1 = Value.agg z1) /\ (∃ y : Unit, z18)))))))) (br z17 (z9 /\ (br z16 (z11 /\ (z7 /\ (z6
  /\ ((Value.agg z2 = Value.agg z2) /\ (z5 /\ (z4 /\ (z3 /\ ((Value.agg z1 = Value.agg z1) /\ (z9 /\ ((Value.int IntKind.i64 z19 = Value.int IntKind.i64 z19) /\ (z5 /\ (z11
  /\ ((Value.int IntKind.i64 z8 = Value.int IntKind.i64 z8) /\ (br (!(cellI (gC enW g.4) (0 + Int.toNat (↑j : Int) * 3 + 2) == (3 : Int)) == (cellI (gCells (gCode (gC pk.enW
  g.3.3))) (0 + Int.toNat (↑j : Int) * 3 + 2) == (3 : Int))) (∃ y : Unit, z18) (∃ j2 : Nat, ((Inv j2) /\ ((m j2 < m j) /\ ((0 = 0) /\ ((List.length g.1 = List.length g.1) /\
  ((0 = 0) /\ ((0 = 0) /\ (((↑g.2.1 : Int) = (↑g.2.1 : Int)) /\ ((0 = 0) /\ ((0 = 0) /\ ((List.length g.4 = List.length g.4) /\ (((↑j2 : Int) = IntKind.wrap IntKind.i64 ((↑j
  : Int) + (1 : Int))) /\ (z10 /\ ((Plain (gC enK g.1)) /\ ((0 = 0) /\ ((g.2.3 = g.2.3) /\ ((g.2.4 = g.2.4) /\ ((0 = 0) /\ ((List.length g.2.2.1 = List.length g.2.2.1) /\
  (z12 /\ ((g.2.2.3 = g.2.2.3) /\ ((0 = 0) /\ (((4096 : Int) = (4096 : Int)) /\ (((2147483647 : Int) = (2147483647 : Int)) /\ ((false = false) /\ ((0 = 0) /\ ((List.length
  g.2.5.1 = List.length g.2.5.1) /\ (z13 /\ ((g.2.5.3 = g.2.5.3) /\ (z14 /\ ((Plain (gC enF (g.2.2.1 ++ g.2.2.2))) /\ (z15 /\ ((Plain (gC enF (g.2.5.1 ++ g.2.5.2))) /\
  ((g.3.1 = g.3.1) /\ ((g.3.2 = g.3.2) /\ ((gCode (gC pk.enW g.3.3) = gCode (gC pk.enW g.3.3)) /\ ((0 = 0) /\ ((List.length g.3.3 = List.length g.3.3) /\ ((3 = 3) /\ ((Eq (α
  := List Value) (gC enW g.4) (gC enW g.4)) /\ ((Plain (gC enW g.4)) /\ True))))))))))))))))))))))))))))))))))))))))))))))))))))))) False)) False)))) False))) False) (∃ y :
  Unit, ((True) /\ ((0 = 0) /\ ((List.length g.1 = List.length g.1) /\ ((0 = 0) /\ ((0 = 0) /\ (((↑g.2.1 : Int) = (↑g.2.1 : Int)) /\ (z10 /\ ((Plain (gC enK g.1)) /\ ((0 =
  0) /\ ((g.2.3 = g.2.3) /\ ((g.2.4 = g.2.4) /\ ((0 = 0) /\ ((List.length g.2.2.1 = List.length g.2.2.1) /\ (z12 /\ ((g.2.2.3 = g.2.2.3) /\ ((0 = 0) /\ (((4096 : Int) =
  (4096 : Int)) /\ (((2147483647 : Int) = (2147483647 : Int)) /\ ((false = false) /\ ((0 = 0) /\ ((List.length g.2.5.1 = List.length g.2.5.1) /\ (z13 /\ ((g.2.5.3 = g.2.5.3)
  /\ (z14 /\ ((Plain (gC enF (g.2.2.1 ++ g.2.2.2))) /\ (z15 /\ ((Plain (gC enF (g.2.5.1 ++ g.2.5.2))) /\ True))))))))))))))))))))))))))))) := by kernel_rfl
theorem B_round (l : List Ak) (s : SB) (Inv : SB → Prop) (m : SB → Nat) : mev EtB mBi 60 5 (0 :: pBo) false (codeOf Try.prog 5 (0 :: pBo)) ⟨mkOv (slB l s), 140, []⟩ none ⟨mkR (rlB l s), 7⟩ (roundK 1 7 140 Inv m (slB l) (rlB l) (wsB l) s) =
  let z1 := (Row.mk (List.take (cellN (gC enK l) (0 + Int.toNat (↑s.1 : Int) * 3 + 1 + 1) * 3) (List.drop (cellO (gC enK l) (0 + Int.toNat (↑s.1 : Int) * 3 + 1 + 1)) (gCells
  (cellZ (gC enK l) (0 + Int.toNat (↑s.1 : Int) * 3 + 1 + 1))))) true (Ob.cells true)); let z4 := (Row.mk (gC enF (s.2.1 ++ s.2.2)) false (Ob.cells true)); let z12 :=
  (pk.bkB z1 z4 (List.length s.2.1) s.2.3 s.3 s.4); let z2 := (Row.mk (List.take (pk.bkN z1 z4 (List.length s.2.1) s.2.3 s.3 s.4 * 1) (List.drop 0 z12)) true (Ob.cells
  true)); let z10 := (cellI (gC enK l) (0 + Int.toNat (↑s.1 : Int) * 3 + 1)); let z3 := (inside z10 (0 : Int) (4096 : Int)); let z5 := (Row.mk (gC enF (s.5.1 ++ s.5.2))
  false (Ob.cells true)); let z6 := (Value.pointer (some (Addr.mk 2 0 none)) = Value.pointer (some (Addr.mk 2 0 none))); let z7 := (Value.pointer (some (Addr.mk 4 0 none)) =
  Value.pointer (some (Addr.mk 4 0 none))); let z8 := ((Eq (α := List Value) (gC enK l) (gC enK l)) /\ ((Plain (gC enK l)) /\ True)); let z9 := (cellO (gC enK l) (0 +
  Int.toNat (↑s.1 : Int) * 3 + 1 + 1) + cellN (gC enK l) (0 + Int.toNat (↑s.1 : Int) * 3 + 1 + 1) * 3 <= List.length (gCells (cellZ (gC enK l) (0 + Int.toNat (↑s.1 : Int) *
  3 + 1 + 1))) /\ True); let z11 := (cellN (gC enK l) (0 + Int.toNat (↑s.1 : Int) * 3 + 1 + 1)); let z13 := ((True /\ (True /\ (True /\ True))) /\ (Plain (gC enF (s.2.1 ++
  s.2.2)) /\ True)); let z14 := (ubW z2 (4096 : Int) (2147483647 : Int) false z5 (List.length s.5.1) s.5.3); let z15 := (ubF z2 (4096 : Int) (2147483647 : Int) false z5
  (List.length s.5.1) s.5.3); let z16 := (pk.buC z1 z4 (List.length s.2.1) s.2.3 s.3 s.4); (br (decide ((↑s.1 : Int) < Int.ofNat (List.length l))) (br (decide ((↑s.1 : Int)
  < (15 : Int))) (br (decide ((0 : Int) <= (↑s.1 : Int) /\ (↑s.1 : Int) < (↑(List.length l) : Int))) ((Eq (α := Option Value) ((gC enK l)[0 + Int.toNat (↑s.1 : Int) * 3]?)
  (some (Value.int IntKind.i64 (cellI (gC enK l) (0 + Int.toNat (↑s.1 : Int) * 3))))) /\ ((Eq (α := Option Value) ((gC enK l)[0 + Int.toNat (↑s.1 : Int) * 3 + 1]?) (some
  (Value.int IntKind.i64 z10))) /\ ((Eq (α := Option Value) ((gC enK l)[0 + Int.toNat (↑s.1 : Int) * 3 + 1 + 1]?) (some (Value.slice (some (Addr.mk (cellZ (gC enK l) (0 +
  Int.toNat (↑s.1 : Int) * 3 + 1 + 1)) (cellO (gC enK l) (0 + Int.toNat (↑s.1 : Int) * 3 + 1 + 1)) (some 0))) z11 3))) /\ (br (cellI (gC enK l) (0 + Int.toNat (↑s.1 : Int) *
  3) == (2 : Int)) ((((True /\ (True /\ (True /\ True))) /\ (True /\ (True /\ (I64 z10 /\ ((-1000000000000 : Int) <= (0 : Int) /\ ((4096 : Int) <= (1000000000000 : Int) /\
  (0 : Int) <= (4096 : Int)))))))) /\ ((((True /\ (True /\ True)) /\ (z13 /\ ((Plain (rsC z4 (List.length s.2.1) s.2.3 z3) /\ True) /\ IsTb z4 (List.length s.2.1) (↑(smZ
  s.2.1 (List.length s.2.1)) : Int))))) /\ (br (rsZ z3 != (0 : Int)) (∃ j : SB, ((Inv j) /\ ((m j < m s) /\ ((0 = 0) /\ ((List.length l = List.length l) /\ ((0 = 0) /\ ((0 =
  0) /\ (((↑j.1 : Int) = IntKind.wrap IntKind.i64 ((↑s.1 : Int) + (1 : Int))) /\ ((Eq (α := List Value) (gC enK l) (gC enK l)) /\ ((Plain (gC enK l)) /\ ((0 = 0) /\ ((j.3 =
  s.3) /\ ((j.4 = s.4) /\ ((0 = 0) /\ ((List.length j.2.1 = rsN z4 (List.length s.2.1) s.2.3 z3) /\ (((↑(smZ j.2.1 (List.length j.2.1)) : Int) = rsS z4 (List.length s.2.1)
  s.2.3 z3) /\ ((j.2.3 = rsM s.2.3 z3) /\ ((0 = 0) /\ (((4096 : Int) = (4096 : Int)) /\ (((2147483647 : Int) = (2147483647 : Int)) /\ ((false = false) /\ ((0 = 0) /\
  ((List.length j.5.1 = List.length s.5.1) /\ (((↑(smZ j.5.1 (List.length j.5.1)) : Int) = (↑(smZ s.5.1 (List.length s.5.1)) : Int)) /\ ((j.5.3 = s.5.3) /\ ((Eq (α := List
  Value) (gC enF (j.2.1 ++ j.2.2)) (rsC z4 (List.length s.2.1) s.2.3 z3)) /\ ((Plain (gC enF (j.2.1 ++ j.2.2))) /\ ((Eq (α := List Value) (gC enF (j.5.1 ++ j.5.2)) (gC enF
  (s.5.1 ++ s.5.2))) /\ ((Plain (gC enF (j.5.1 ++ j.5.2))) /\ True))))))))))))))))))))))))))))) (br (!s.3) (∃ j : SB, ((Inv j) /\ ((m j < m s) /\ ((0 = 0) /\ ((List.length l
  = List.length l) /\ ((0 = 0) /\ ((0 = 0) /\ (((↑j.1 : Int) = IntKind.wrap IntKind.i64 ((↑s.1 : Int) + (1 : Int))) /\ ((Eq (α := List Value) (gC enK l) (gC enK l)) /\
  ((Plain (gC enK l)) /\ ((0 = 0) /\ ((j.3 = true) /\ ((j.4 = inside z10 (0 : Int) (4096 : Int)) /\ ((0 = 0) /\ ((List.length j.2.1 = rsN z4 (List.length s.2.1) s.2.3 z3) /\
  (((↑(smZ j.2.1 (List.length j.2.1)) : Int) = rsS z4 (List.length s.2.1) s.2.3 z3) /\ ((j.2.3 = rsM s.2.3 z3) /\ ((0 = 0) /\ (((4096 : Int) = (4096 : Int)) /\ (((2147483647
  : Int) = (2147483647 : Int)) /\ ((false = false) /\ ((0 = 0) /\ ((List.length j.5.1 = List.length s.5.1) /\ (((↑(smZ j.5.1 (List.length j.5.1)) : Int) = (↑(smZ s.5.1
  (List.length s.5.1)) : Int)) /\ ((j.5.3 = s.5.3) /\ ((Eq (α := List Value) (gC enF (j.2.1 ++ j.2.2)) (rsC z4 (List.length s.2.1) s.2.3 z3)) /\ ((Plain (gC enF (j.2.1 ++
  j.2.2))) /\ ((Eq (α := List Value) (gC enF (j.5.1 ++ j.5.2)) (gC enF (s.5.1 ++ s.5.2))) /\ ((Plain (gC enF (j.5.1 ++ j.5.2))) /\ True))))))))))))))))))))))))))))) (br
  (decide (inside z10 (0 : Int) (4096 : Int) < s.4)) (∃ j : SB, ((Inv j) /\ ((m j < m s) /\ ((0 = 0) /\ ((List.length l = List.length l) /\ ((0 = 0) /\ ((0 = 0) /\ (((↑j.1 :
  Int) = IntKind.wrap IntKind.i64 ((↑s.1 : Int) + (1 : Int))) /\ ((Eq (α := List Value) (gC enK l) (gC enK l)) /\ ((Plain (gC enK l)) /\ ((0 = 0) /\ ((j.3 = true) /\ ((j.4 =
  inside z10 (0 : Int) (4096 : Int)) /\ ((0 = 0) /\ ((List.length j.2.1 = rsN z4 (List.length s.2.1) s.2.3 z3) /\ (((↑(smZ j.2.1 (List.length j.2.1)) : Int) = rsS z4
  (List.length s.2.1) s.2.3 z3) /\ ((j.2.3 = rsM s.2.3 z3) /\ ((0 = 0) /\ (((4096 : Int) = (4096 : Int)) /\ (((2147483647 : Int) = (2147483647 : Int)) /\ ((false = false) /\
  ((0 = 0) /\ ((List.length j.5.1 = List.length s.5.1) /\ (((↑(smZ j.5.1 (List.length j.5.1)) : Int) = (↑(smZ s.5.1 (List.length s.5.1)) : Int)) /\ ((j.5.3 = s.5.3) /\ ((Eq
  (α := List Value) (gC enF (j.2.1 ++ j.2.2)) (rsC z4 (List.length s.2.1) s.2.3 z3)) /\ ((Plain (gC enF (j.2.1 ++ j.2.2))) /\ ((Eq (α := List Value) (gC enF (j.5.1 ++
  j.5.2)) (gC enF (s.5.1 ++ s.5.2))) /\ ((Plain (gC enF (j.5.1 ++ j.5.2))) /\ True))))))))))))))))))))))))))))) (∃ j : SB, ((Inv j) /\ ((m j < m s) /\ ((0 = 0) /\
  ((List.length l = List.length l) /\ ((0 = 0) /\ ((0 = 0) /\ (((↑j.1 : Int) = IntKind.wrap IntKind.i64 ((↑s.1 : Int) + (1 : Int))) /\ ((Eq (α := List Value) (gC enK l) (gC
  enK l)) /\ ((Plain (gC enK l)) /\ ((0 = 0) /\ ((j.3 = true) /\ ((j.4 = s.4) /\ ((0 = 0) /\ ((List.length j.2.1 = rsN z4 (List.length s.2.1) s.2.3 z3) /\ (((↑(smZ j.2.1
  (List.length j.2.1)) : Int) = rsS z4 (List.length s.2.1) s.2.3 z3) /\ ((j.2.3 = rsM s.2.3 z3) /\ ((0 = 0) /\ (((4096 : Int) = (4096 : Int)) /\ (((2147483647 : Int) =
  (2147483647 : Int)) /\ ((false = false) /\ ((0 = 0) /\ ((List.length j.5.1 = List.length s.5.1) /\ (((↑(smZ j.5.1 (List.length j.5.1)) : Int) = (↑(smZ s.5.1 (List.length
  s.5.1)) : Int)) /\ ((j.5.3 = s.5.3) /\ ((Eq (α := List Value) (gC enF (j.2.1 ++ j.2.2)) (rsC z4 (List.length s.2.1) s.2.3 z3)) /\ ((Plain (gC enF (j.2.1 ++ j.2.2))) /\
  ((Eq (α := List Value) (gC enF (j.5.1 ++ j.5.2)) (gC enF (s.5.1 ++ s.5.2))) /\ ((Plain (gC enF (j.5.1 ++ j.5.2))) /\ True)))))))))))))))))))))))))))))))))) (((z9 /\ ((True
  /\ True) /\ (True /\ pk.IsWo z1 z11)))) /\ (br (!pk.ltR z1) (∃ j : SB, ((Inv j) /\ ((m j < m s) /\ ((0 = 0) /\ ((List.length l = List.length l) /\ ((0 = 0) /\ ((0 = 0) /\
  (((↑j.1 : Int) = IntKind.wrap IntKind.i64 ((↑s.1 : Int) + (1 : Int))) /\ ((Eq (α := List Value) (gC enK l) (gC enK l)) /\ ((Plain (gC enK l)) /\ ((0 = 0) /\ ((j.3 = s.3)
  /\ ((j.4 = s.4) /\ ((0 = 0) /\ ((List.length j.2.1 = List.length s.2.1) /\ (((↑(smZ j.2.1 (List.length j.2.1)) : Int) = (↑(smZ s.2.1 (List.length s.2.1)) : Int)) /\
  ((j.2.3 = s.2.3) /\ ((0 = 0) /\ (((4096 : Int) = (4096 : Int)) /\ (((2147483647 : Int) = (2147483647 : Int)) /\ ((false = false) /\ ((0 = 0) /\ ((List.length j.5.1 =
  List.length s.5.1) /\ (((↑(smZ j.5.1 (List.length j.5.1)) : Int) = (↑(smZ s.5.1 (List.length s.5.1)) : Int)) /\ ((j.5.3 = s.5.3) /\ ((Eq (α := List Value) (gC enF (j.2.1
  ++ j.2.2)) (gC enF (s.2.1 ++ s.2.2))) /\ ((Plain (gC enF (j.2.1 ++ j.2.2))) /\ ((Eq (α := List Value) (gC enF (j.5.1 ++ j.5.2)) (gC enF (s.5.1 ++ s.5.2))) /\ ((Plain (gC
  enF (j.5.1 ++ j.5.2))) /\ True))))))))))))))))))))))))))))) ((((True /\ z9) /\ (((True /\ (True /\ (True /\ True))) /\ (True /\ z13)) /\ ((Plain z16 /\ (Plain z12 /\
  True)) /\ (pk.IsW z1 z11 /\ (pk.IsTk z4 (List.length s.2.1) (↑(smZ s.2.1 (List.length s.2.1)) : Int) s.2.3 /\ ((0 : Int) <= s.4 /\ s.4 <= (65536 : Int)))))))) /\ ((((True
  /\ ((0 + pk.bkN z1 z4 (List.length s.2.1) s.2.3 s.3 s.4 * 1 <= List.length z12 /\ Plain (List.take (pk.bkN z1 z4 (List.length s.2.1) s.2.3 s.3 s.4 * 1) (List.drop 0 z12)))
  /\ True)) /\ (((True /\ (True /\ (True /\ (True /\ True)))) /\ (True /\ ((True /\ (True /\ (True /\ True))) /\ (Plain (gC enF (s.5.1 ++ s.5.2)) /\ True)))) /\ ((Plain z14
  /\ (Plain z15 /\ True)) /\ (IsB1 z2 (pk.bkN z1 z4 (List.length s.2.1) s.2.3 s.3 s.4) /\ (IsTs z5 (List.length s.5.1) (↑(smZ s.5.1 (List.length s.5.1)) : Int) s.5.3 /\ TopP
  (4096 : Int) (2147483647 : Int) s.5.3)))))) /\ (br (ubE z2 (4096 : Int) (2147483647 : Int) false z5 (List.length s.5.1) s.5.3 != (0 : Int)) (∃ y : Unit, ((False) /\
  ((false = false) /\ z8))) (br (Int.ofNat (ubN z2 (4096 : Int) (2147483647 : Int) false z5 (List.length s.5.1) s.5.3) != Int.ofNat z11) (∃ y : Unit, ((False) /\ ((false =
  false) /\ z8))) (∃ g : GB2, ((MatchW g.4 g.3.3) /\ ((0 = 0) /\ ((List.length g.1 = List.length l) /\ ((0 = 0) /\ ((0 = 0) /\ (((↑g.2.1 : Int) = (↑s.1 : Int)) /\ ((0 = 0)
  /\ ((0 = 0) /\ ((List.length g.4 = ubN z2 (4096 : Int) (2147483647 : Int) false z5 (List.length s.5.1) s.5.3) /\ (((0 : Int) = (0 : Int)) /\ ((Eq (α := List Value) (gC enK
  g.1) (gC enK l)) /\ ((Plain (gC enK g.1)) /\ ((0 = 0) /\ ((g.2.3 = false) /\ ((g.2.4 = s.4) /\ ((0 = 0) /\ ((List.length g.2.2.1 = pk.buN z1 z4 (List.length s.2.1) s.2.3
  s.3 s.4) /\ (((↑(smZ g.2.2.1 (List.length g.2.2.1)) : Int) = pk.buS z1 z4 (List.length s.2.1) s.2.3 s.3 s.4) /\ ((g.2.2.3 = s.2.3) /\ ((0 = 0) /\ (((4096 : Int) = (4096 :
  Int)) /\ (((2147483647 : Int) = (2147483647 : Int)) /\ ((false = ubB z2 (4096 : Int) (2147483647 : Int) false z5 (List.length s.5.1) s.5.3) /\ ((0 = 0) /\ ((List.length
  g.2.5.1 = ubK z2 (4096 : Int) (2147483647 : Int) false z5 (List.length s.5.1) s.5.3) /\ (((↑(smZ g.2.5.1 (List.length g.2.5.1)) : Int) = ubS z2 (4096 : Int) (2147483647 :
  Int) false z5 (List.length s.5.1) s.5.3) /\ ((g.2.5.3 = ubM z2 (4096 : Int) (2147483647 : Int) false z5 (List.length s.5.1) s.5.3) /\ ((Eq (α := List Value) (gC enF
  (g.2.2.1 ++ g.2.2.2)) z16) /\ ((Plain (gC enF (g.2.2.1 ++ g.2.2.2))) /\ ((Eq (α := List Value) (gC enF (g.2.5.1 ++ g.2.5.2)) z15) /\ ((Plain (gC enF (g.2.5.1 ++ g.2.5.2)))
  /\ ((g.3.1 = cellI (gC enK l) (0 + Int.toNat (↑s.1 : Int) * 3)) /\ ((g.3.2 = cellI (gC enK l) (0 + Int.toNat (↑s.1 : Int) * 3 + 1)) /\ ((gCode (gC pk.enW g.3.3) = cellZ
  (gC enK l) (0 + Int.toNat (↑s.1 : Int) * 3 + 1 + 1)) /\ ((0 = cellO (gC enK l) (0 + Int.toNat (↑s.1 : Int) * 3 + 1 + 1)) /\ ((List.length g.3.3 = cellN (gC enK l) (0 +
  Int.toNat (↑s.1 : Int) * 3 + 1 + 1)) /\ ((3 = 3) /\ ((Eq (α := List Value) (gC enW g.4) z14) /\ ((Plain (gC enW g.4)) /\ (∀ (side : Bool), (br (side) (∀ (y : Unit),
  ((True) → (z6 /\ (z6 /\ (z6 /\ (z6 /\ (z6 /\ (z6 /\ (z7 /\ (z7 /\ (z7 /\ (z7 /\ (z7 /\ (z7 /\ (br (Int.ofNat (List.length g.2.2.1) != Int.ofNat (List.length g.2.5.1)) (∃
  y2 : Unit, ((False) /\ ((false = false) /\ ((Eq (α := List Value) (gC enK l) (gC enK g.1)) /\ ((Plain (gC enK l)) /\ True))))) (br ((↑(smZ g.2.2.1 (List.length g.2.2.1)) :
  Int) != (↑(smZ g.2.5.1 (List.length g.2.5.1)) : Int)) (∃ y2 : Unit, ((False) /\ ((false = false) /\ ((Eq (α := List Value) (gC enK l) (gC enK g.1)) /\ ((Plain (gC enK l))
  /\ True))))) (∃ j : SB, ((Inv j) /\ ((m j < m s) /\ ((0 = 0) /\ ((List.length l = List.length g.1) /\ ((0 = 0) /\ ((0 = 0) /\ (((↑j.1 : Int) = IntKind.wrap IntKind.i64
  ((↑g.2.1 : Int) + (1 : Int))) /\ ((Eq (α := List Value) (gC enK l) (gC enK g.1)) /\ ((Plain (gC enK l)) /\ ((0 = 0) /\ ((j.3 = g.2.3) /\ ((j.4 = g.2.4) /\ ((0 = 0) /\
  ((List.length j.2.1 = List.length g.2.2.1) /\ (((↑(smZ j.2.1 (List.length j.2.1)) : Int) = (↑(smZ g.2.2.1 (List.length g.2.2.1)) : Int)) /\ ((j.2.3 = g.2.2.3) /\ ((0 = 0)
  /\ (((4096 : Int) = (4096 : Int)) /\ (((2147483647 : Int) = (2147483647 : Int)) /\ ((false = false) /\ ((0 = 0) /\ ((List.length j.5.1 = List.length g.2.5.1) /\ (((↑(smZ
  j.5.1 (List.length j.5.1)) : Int) = (↑(smZ g.2.5.1 (List.length g.2.5.1)) : Int)) /\ ((j.5.3 = g.2.5.3) /\ ((Eq (α := List Value) (gC enF (j.2.1 ++ j.2.2)) (gC enF
  (g.2.2.1 ++ g.2.2.2))) /\ ((Plain (gC enF (j.2.1 ++ j.2.2))) /\ ((Eq (α := List Value) (gC enF (j.5.1 ++ j.5.2)) (gC enF (g.2.5.1 ++ g.2.5.2))) /\ ((Plain (gC enF (j.5.1
  ++ j.5.2))) /\ True))))))))))))))))))))))))))))))))))))))))))))) (∀ (y : Unit), ((False) → (∃ y2 : Unit, ((False) /\ ((false = false) /\ ((Eq (α := List Value) (gC enK l)
  (gC enK g.1)) /\ ((Plain (gC enK l)) /\ True))))))))))))))))))))))))))))))))))))))))))))))))))))))))))) False) (∃ y : Unit, ((True) /\ z8))) (∃ y : Unit, ((True) /\ z8))) := by kernel_rfl
theorem B_vc (l : List Ak) : mcall EtB mB 60 5 [.slice (some ⟨0, 0, none⟩) l.length 3] ⟨mkR (nums 0 [gRo enK l]), 1⟩ (retIs 1 (.bool true) [gRo enK l]) =
  (∃ g : List Ak, ((∀ (a : Ak), a ∈ g → AkOk a) /\ ((0 = 0) /\ ((List.length g = List.length l) /\ ((0 = 0) /\ ((0 = 0) /\ (((0 : Int) = (0 : Int)) /\ ((Eq (α := List Value)
  (gC enK g) (gC enK l)) /\ ((Plain (gC enK g)) /\ ((0 = 0) /\ ((false = false) /\ (((0 : Int) = (0 : Int)) /\ ((0 = 0) /\ ((Int.ofNat (smZ (Tb.l (SB.t s0B)) (List.length
  (Tb.l (SB.t s0B)))) = (0 : Int)) /\ (((4096 : Int) = (4096 : Int)) /\ ((0 = 0) /\ (((4096 : Int) = (4096 : Int)) /\ (((2147483647 : Int) = (2147483647 : Int)) /\ ((false =
  false) /\ ((0 = 0) /\ ((Int.ofNat (smZ (Tb.l (SB.u s0B)) (List.length (Tb.l (SB.u s0B)))) = (0 : Int)) /\ (((4096 : Int) = (4096 : Int)) /\ ((Eq (α := List Value) ([])
  ([])) /\ ((Eq (α := List Value) ([]) ([])) /\ (∀ (side : Bool), (br (side) (∀ (y : Unit), ((True) → (((True /\ (True /\ (True /\ True)))) /\ ((true = true) /\ ((Eq (α :=
  List Value) (gC enK l) (gC enK g)) /\ ((Plain (gC enK l)) /\ True)))))) (∀ (y : Unit), ((False) → ((true = false) /\ ((Eq (α := List Value) (gC enK l) (gC enK g)) /\
  ((Plain (gC enK l)) /\ True))))))))))))))))))))))))))))))) := by kernel_rfl
theorem eWiB_ok : EntOk Try.prog eWiB := entC_ok (by
  intro a rows p v news h hp
  split at h <;> simp only [Option.some.injEq, Prod.mk.injEq, reduceCtorEq] at h
  obtain ⟨rfl, rfl, rfl⟩ := h
  exact Go.Proofs.Ytlkinjlbaeigdaa.tk.within_con _ _ _ hp.1 hp.2.1 hp.2.2.1 hp.2.2.2)
theorem tB_ok : ∀ x ∈ tB, EntOk Try.prog x := all_cons eUb_ok (all_cons Go.Proofs.Ytlkinjlbaeigdaa.pk.eBlk_ok (all_cons Go.Proofs.Ytlkinjlbaeigdaa.pk.eLi_ok (all_cons Go.Proofs.Ytlkinjlbaeigdaa.pk.eRunsP_ok (all_cons eWiB_ok (all_cons eResT_ok (all_nil))))))
theorem enK_pl (l : List Ak) : Plain (gC enK l) := gC_plain (fun a v hv => by
  unfold enK at hv
  simp only [List.mem_cons, List.mem_nil_iff, or_false] at hv
  rcases hv with rfl | rfl | rfl <;> rfl) l
theorem enW_g (l : List PW) : gAll (gC Go.Proofs.Ytlkinjlbaeigdaa.pk.enW l) = true := by
  unfold gAll
  rw [List.all_eq_true]
  intro v hv
  obtain ⟨f, _, h⟩ := List.mem_flatMap.1 hv
  unfold Go.Proofs.Ytlkinjlbaeigdaa.pk.enW at h
  simp only [List.mem_cons, List.mem_nil_iff, or_false] at h
  rcases h with rfl | rfl | rfl <;> rfl
theorem wKu (w : Go.Proofs.Ytlkinjlbaeigdaa.up.Wr) : (enW w).length = 3 := rfl
theorem vGet (l : List Go.Proofs.Ytlkinjlbaeigdaa.up.Wr) (i : Nat) (h : i < l.length) : (gC enW l)[i * 3]? = some (.string (bs l[i].f.n)) ∧ (gC enW l)[i * 3 + 1]? = some (.string (bs l[i].f.v)) ∧ (gC enW l)[i * 3 + 2]? = some (.int .i64 l[i].h) ∧ cellS (gC enW l) (i * 3) = bs l[i].f.n ∧ cellS (gC enW l) (i * 3 + 1) = bs l[i].f.v ∧ cellI (gC enW l) (i * 3 + 2) = l[i].h := by
  have h0 := gC_get wKu l i 0 h (by omega)
  have h1 := gC_get wKu l i 1 h (by omega)
  have h2 := gC_get wKu l i 2 h (by omega)
  refine ⟨h0, h1, h2, ?_, ?_, ?_⟩
  · unfold cellS; rw [show (gC enW l)[i * 3]? = _ from h0]; rfl
  · unfold cellS; rw [h1]; rfl
  · unfold cellI; rw [h2]; rfl
theorem wGet2 (l : List PW) (i : Nat) (h : i < l.length) : (gC Go.Proofs.Ytlkinjlbaeigdaa.pk.enW l)[i * 3]? = some (.string (bs l[i].f.n)) ∧ (gC Go.Proofs.Ytlkinjlbaeigdaa.pk.enW l)[i * 3 + 1]? = some (.string (bs l[i].f.v)) ∧ (gC Go.Proofs.Ytlkinjlbaeigdaa.pk.enW l)[i * 3 + 2]? = some (.int .i64 l[i].h) ∧ cellS (gC Go.Proofs.Ytlkinjlbaeigdaa.pk.enW l) (i * 3) = bs l[i].f.n ∧ cellS (gC Go.Proofs.Ytlkinjlbaeigdaa.pk.enW l) (i * 3 + 1) = bs l[i].f.v ∧ cellI (gC Go.Proofs.Ytlkinjlbaeigdaa.pk.enW l) (i * 3 + 2) = l[i].h := Go.Proofs.Ytlkinjlbaeigdaa.pk.wGet l i h
theorem Bi_piece : PieceOk EtB 1 (5, pBi, specBi) := by
  refine piece_loop tk.mixed (calls_envT tB_ok) (lok_envT _ _) lm_none (n := 60) (by kernel_rfl) (fun _ : GB2 => 0) (fun g j => j ≤ g.V.length) (fun g j => g.V.length - j) (sl := slBi) (rl := fun g _ => rlBi g) (fun g hg => Nat.zero_le _) (fun g j hg hi => ?_)
  refine (Bi_round g j _ _).mpr ?_
  obtain ⟨m1, m2, m3⟩ := hg
  have hz : gCells (gCode (gC Go.Proofs.Ytlkinjlbaeigdaa.pk.enW g.a.l)) = gC Go.Proofs.Ytlkinjlbaeigdaa.pk.enW g.a.l := gCells_code (enW_g _)
  refine br_if (fun h => ?_) (fun h => ?_)
  · have hj : j < g.V.length := by have : (j : Int) < (g.V.length : Int) := h; omega
    have hj2 : j < g.a.l.length := by omega
    obtain ⟨c0, c1, c2, d0, d1, d2⟩ := vGet g.V j hj
    obtain ⟨e0, e1, e2, f0, f1, f2⟩ := wGet2 g.a.l j hj2
    obtain ⟨k1, k2⟩ := m3 j hj hj2
    have w1 : IntKind.i64.wrap ((j : Int) + 1) = ((j + 1 : Nat) : Int) := by rw [wr64_id (by unfold I64; omega)]; omega
    rw [k1] at c0 c1 d0 d1
    have k3 : (g.V[j].h == 3) = (g.a.l[j].h == 3) := by
      by_cases q : g.a.l[j].h = 3
      · rw [q, k2.2 q]
      · have q2 : g.V[j].h ≠ 3 := fun e => q (k2.1 e)
        rw [beq_eq_false_iff_ne.2 q, beq_eq_false_iff_ne.2 q2]
    have bb : ∀ x : List UInt8, (bs x == bs x) = true := fun x => by rw [Go.Proofs.Ytlkinjlbaeigdaa.tb.bq_bs]; exact decide_eq_true rfl
    simp only [ofNat_eq, toNat_cast, Nat.zero_add, Nat.add_zero, Nat.mul_one, List.drop_zero, bCells_len, bCells_drop, bCells_take, bCells_app, bCells_one, bCells_plain, List.length_replicate, List.length_append, List.length_take, List.length_drop, List.take_length, and_true, true_and, and_self, decide_true, List.length_nil, List.length_cons, Nat.sub_zero, dB_mk, dB_ro, List.take_zero, hz, c0, c1, c2, d0, d1, d2, e0, e1, e2, f0, f1, f2, w1, bb, k3, z_smZ, fPl, plW, Go.Proofs.Ytlkinjlbaeigdaa.pk.wPl, enK_pl, Bool.and_true, Bool.not_true, true_and, and_true]
    exact br_dec (by omega) (br_dec (by omega) (br_nb rfl (br_dec (by omega) (br_dec (by omega) (br_nb (by simp) ⟨j + 1, by omega, by omega, rfl⟩)))))
  · have : j = g.V.length := by have : ¬ (j : Int) < (g.V.length : Int) := h; omega
    subst this
    simp only [ofNat_eq, toNat_cast, Nat.zero_add, Nat.add_zero, Nat.mul_one, List.drop_zero, bCells_len, bCells_drop, bCells_take, bCells_app, bCells_one, bCells_plain, List.length_replicate, List.length_append, List.length_take, List.length_drop, List.take_length, and_true, true_and, and_self, decide_true, List.length_nil, List.length_cons, Nat.sub_zero, dB_mk, dB_ro, List.take_zero, z_smZ, fPl, plW, enK_pl]
    exact ⟨(), trivial⟩
theorem wmem (l : List PW) (w : PW) (h : w ∈ l) : fbN w.f ≤ Go.Proofs.Ytlkinjlbaeigdaa.pk.wSum l := by
  induction l with
  | nil => simp at h
  | cons a l ih =>
    have e : Go.Proofs.Ytlkinjlbaeigdaa.pk.wSum (a :: l) = fbN a.f + Go.Proofs.Ytlkinjlbaeigdaa.pk.wSum l := by unfold Go.Proofs.Ytlkinjlbaeigdaa.pk.wSum; rw [List.map_cons, List.sum_cons]
    rcases List.mem_cons.1 h with rfl | h
    · omega
    · have := ih h; omega
theorem kK (a : Ak) : (enK a).length = 3 := rfl
theorem akGet (l : List Ak) (i : Nat) (h : i < l.length) : (gC enK l)[i * 3]? = some (.int .i64 l[i].k) ∧ (gC enK l)[i * 3 + 1]? = some (.int .i64 l[i].n) ∧ (gC enK l)[i * 3 + 1 + 1]? = some (.slice (some ⟨gCode (gC Go.Proofs.Ytlkinjlbaeigdaa.pk.enW l[i].l), 0, some 0⟩) l[i].l.length 3) ∧ cellI (gC enK l) (i * 3) = l[i].k ∧ cellI (gC enK l) (i * 3 + 1) = l[i].n ∧ cellZ (gC enK l) (i * 3 + 1 + 1) = gCode (gC Go.Proofs.Ytlkinjlbaeigdaa.pk.enW l[i].l) ∧ cellO (gC enK l) (i * 3 + 1 + 1) = 0 ∧ cellN (gC enK l) (i * 3 + 1 + 1) = l[i].l.length := by
  have h0 := gC_get kK l i 0 h (by omega)
  have h1 := gC_get kK l i 1 h (by omega)
  have h2 := gC_get kK l i 2 h (by omega)
  have h2' : (gC enK l)[i * 3 + 1 + 1]? = some (.slice (some ⟨gCode (gC Go.Proofs.Ytlkinjlbaeigdaa.pk.enW l[i].l), 0, some 0⟩) l[i].l.length 3) := h2
  refine ⟨h0, h1, h2', Go.Proofs.Ytlkinjlbaeigdaa.pk.cellI_ofW h0, Go.Proofs.Ytlkinjlbaeigdaa.pk.cellI_ofW h1, ?_, ?_, ?_⟩
  · unfold cellZ; rw [h2']
  · unfold cellO; rw [h2']
  · unfold cellN; rw [h2']
theorem bk_mk (l : List PW) (t : Tb) (b : Bool) (k : Int) : Go.Proofs.Ytlkinjlbaeigdaa.pk.bkN ⟨gC Go.Proofs.Ytlkinjlbaeigdaa.pk.enW l, true, .cells true⟩ ⟨gC enF (t.l ++ t.j), false, .cells true⟩ t.l.length t.most b k = (szs t.most b k ++ (blk l t).1).length ∧ Go.Proofs.Ytlkinjlbaeigdaa.pk.bkB ⟨gC Go.Proofs.Ytlkinjlbaeigdaa.pk.enW l, true, .cells true⟩ ⟨gC enF (t.l ++ t.j), false, .cells true⟩ t.l.length t.most b k = bCells (szs t.most b k ++ (blk l t).1) ∧ Go.Proofs.Ytlkinjlbaeigdaa.pk.buN ⟨gC Go.Proofs.Ytlkinjlbaeigdaa.pk.enW l, true, .cells true⟩ ⟨gC enF (t.l ++ t.j), false, .cells true⟩ t.l.length t.most b k = (blk l t).2.l.length ∧ Go.Proofs.Ytlkinjlbaeigdaa.pk.buS ⟨gC Go.Proofs.Ytlkinjlbaeigdaa.pk.enW l, true, .cells true⟩ ⟨gC enF (t.l ++ t.j), false, .cells true⟩ t.l.length t.most b k = ((smN (blk l t).2.l : Nat) : Int) ∧ Go.Proofs.Ytlkinjlbaeigdaa.pk.buC ⟨gC Go.Proofs.Ytlkinjlbaeigdaa.pk.enW l, true, .cells true⟩ ⟨gC enF (t.l ++ t.j), false, .cells true⟩ t.l.length t.most b k = gC enF ((blk l t).2.l ++ (blk l t).2.j) := by
  have e : rowT ⟨gC enF (t.l ++ t.j), false, .cells true⟩ t.l.length t.most = t := row_T t.l t.j t.most
  rw [Go.Proofs.Ytlkinjlbaeigdaa.pk.z_bkN, Go.Proofs.Ytlkinjlbaeigdaa.pk.z_bkB, Go.Proofs.Ytlkinjlbaeigdaa.pk.z_buN, Go.Proofs.Ytlkinjlbaeigdaa.pk.z_buS, Go.Proofs.Ytlkinjlbaeigdaa.pk.z_buC]
  simp only [Go.Proofs.Ytlkinjlbaeigdaa.pk.decW_gC, e, and_self]
structure InvB (l : List Ak) (s : SB) : Prop where
  i : s.i ≤ l.length
  t : Ok s.t ∧ s.t.most ≤ 4096
  u : Ok s.u ∧ s.u.most ≤ 4096
  k : 0 ≤ s.k ∧ s.k ≤ 65536
  r : RelT s.b s.k s.u s.t
theorem ok0 : Ok ⟨[], [], 4096⟩ := ⟨by show (0 : Int) ≤ 4096; omega, by show (0 : Int) ≤ 4096; omega, by show (4096 : Int) ≤ 65536; omega⟩
theorem B_piece : PieceOk EtB 1 (5, pBo, specB) := by
  refine piece_loop tk.mixed (calls_envT tB_ok) (lok_envT _ _) (M := mBi) (lm_one Bi_piece) (n := 60) (by kernel_rfl) (fun _ : List Ak => s0B) InvB (fun l s => l.length - s.i) (sl := slB) (rl := rlB) (fun l hg => ⟨Nat.zero_le _, ⟨ok0, Int.le_refl _⟩, ⟨ok0, Int.le_refl _⟩, ⟨Int.le_refl _, by show (0 : Int) ≤ 65536; omega⟩, ⟨fun _ => ⟨rfl, rfl⟩, fun e => by simp [s0B] at e⟩⟩) (fun l s hg hi => ?_)
  refine (B_round l s _ _).mpr ?_
  obtain ⟨i, ⟨tl, tj, tm⟩, b, k, ⟨ul, uj, um⟩⟩ := s
  obtain ⟨h1, ⟨h2, h2'⟩, ⟨h3, h3'⟩, ⟨h4, h4'⟩, h5⟩ := hi
  simp only at h1 h2 h2' h3 h3' h4 h4' h5
  have one : ∀ l : List Fl, smN (l.take l.length) = smN l := fun l => by rw [List.take_length]
  refine br_if (fun h => ?_) (fun h => ⟨(), by simp only [ofNat_eq, toNat_cast, Nat.zero_add, Nat.add_zero, Nat.mul_one, List.drop_zero, bCells_len, bCells_drop, bCells_take, bCells_app, bCells_one, bCells_plain, List.length_replicate, List.length_append, List.length_take, List.length_drop, List.take_length, and_true, true_and, and_self, decide_true, List.length_nil, List.length_cons, Nat.sub_zero, dB_mk, dB_ro, List.take_zero, enK_pl]⟩)
  refine br_if (fun h15 => ?_) (fun h15 => ⟨(), by simp only [ofNat_eq, toNat_cast, Nat.zero_add, Nat.add_zero, Nat.mul_one, List.drop_zero, bCells_len, bCells_drop, bCells_take, bCells_app, bCells_one, bCells_plain, List.length_replicate, List.length_append, List.length_take, List.length_drop, List.take_length, and_true, true_and, and_self, decide_true, List.length_nil, List.length_cons, Nat.sub_zero, dB_mk, dB_ro, List.take_zero, enK_pl]⟩)
  have hi : i < l.length := by have : (i : Int) < (l.length : Int) := h; omega
  obtain ⟨c0, c1, c2, d0, d1, d2, d3, d4⟩ := akGet l i hi
  obtain ⟨⟨l0, l1⟩, lw⟩ := hg _ (List.getElem_mem hi)
  have hz : gCells (gCode (gC Go.Proofs.Ytlkinjlbaeigdaa.pk.enW l[i].l)) = gC Go.Proofs.Ytlkinjlbaeigdaa.pk.enW l[i].l := gCells_code (enW_g _)
  have w1 : IntKind.i64.wrap ((i : Int) + 1) = ((i + 1 : Nat) : Int) := by rw [wr64_id (by have : (i : Int) < 15 := h15; unfold I64; omega)]; omega
  have rN : ∀ l j m k, rsN ⟨gC enF (l ++ j), false, .cells true⟩ l.length m k = (rsT ⟨l, j, m⟩ k).l.length := fun l j m k => (rs_mk l j m k).1
  have rS : ∀ l j m k, rsS ⟨gC enF (l ++ j), false, .cells true⟩ l.length m k = (smN (rsT ⟨l, j, m⟩ k).l : Nat) := fun l j m k => (rs_mk l j m k).2.1
  have rC : ∀ l j m k, rsC ⟨gC enF (l ++ j), false, .cells true⟩ l.length m k = gC enF ((rsT ⟨l, j, m⟩ k).l ++ (rsT ⟨l, j, m⟩ k).j) := fun l j m k => (rs_mk l j m k).2.2
  have tkL : List.take (l[i].l.length * 3) (gC Go.Proofs.Ytlkinjlbaeigdaa.pk.enW l[i].l) = gC Go.Proofs.Ytlkinjlbaeigdaa.pk.enW l[i].l := List.take_of_length_le (by rw [Go.Proofs.Ytlkinjlbaeigdaa.pk.wLen]; omega)
  have hlt : Go.Proofs.Ytlkinjlbaeigdaa.pk.ltR ⟨gC Go.Proofs.Ytlkinjlbaeigdaa.pk.enW l[i].l, true, .cells true⟩ = decide (Go.Proofs.Ytlkinjlbaeigdaa.pk.wSum l[i].l ≤ 3000) := by rw [Go.Proofs.Ytlkinjlbaeigdaa.pk.z_ltR]; simp only [Go.Proofs.Ytlkinjlbaeigdaa.pk.decW_gC]
  simp only [ofNat_eq, toNat_cast, Nat.zero_add, Nat.add_zero, Nat.mul_one, List.drop_zero, bCells_len, bCells_drop, bCells_take, bCells_app, bCells_one, bCells_plain, List.length_replicate, List.length_append, List.length_take, List.length_drop, List.take_length, and_true, true_and, and_self, decide_true, List.length_nil, List.length_cons, Nat.sub_zero, dB_mk, dB_ro, List.take_zero, z_smZ, c0, c1, c2, d0, d1, d2, d3, d4, hz, w1, rN, rS, rC, one, fPl, plW, Go.Proofs.Ytlkinjlbaeigdaa.pk.wPl, enK_pl, hlt, tkL, Go.Proofs.Ytlkinjlbaeigdaa.pk.wLen]
  have fin : ∀ (T U : Tb) (b' : Bool) (k' mo uo : Int), Ok T → T.most ≤ 4096 → 0 ≤ k' → k' ≤ 65536 → RelT b' k' U T → Ok U → U.most ≤ 4096 → mo = T.most → uo = U.most → ∃ j : SB, InvB l j ∧ l.length - j.i < l.length - i ∧ (↑j.i : Int) = ↑(i + 1) ∧ j.b = b' ∧ j.k = k' ∧ j.t.l.length = T.l.length ∧ (↑(smN j.t.l) : Int) = ↑(smN T.l) ∧ j.t.most = mo ∧ j.u.l.length = U.l.length ∧ (↑(smN j.u.l) : Int) = ↑(smN U.l) ∧ j.u.most = uo ∧ gC enF (j.t.l ++ j.t.j) = gC enF (T.l ++ T.j) ∧ gC enF (j.u.l ++ j.u.j) = gC enF (U.l ++ U.j) :=
    fun T U b' k' mo uo o1 o2 a1 a2 r o3 o4 e1 e2 => ⟨⟨i + 1, T, b', k', U⟩, ⟨by simp only; omega, ⟨o1, o2⟩, ⟨o3, o4⟩, ⟨a1, a2⟩, r⟩, by simp only; omega, rfl, rfl, rfl, rfl, rfl, e1.symm, rfl, rfl, e2.symm, rfl, rfl⟩
  refine br_dec (by omega) (br_intro (fun hk => ?_) (fun hk => ?_))
  · obtain ⟨i1, i2⟩ := Go.Proofs.Ytlkinjlbaeigdaa.tk.inside_in l[i].n 0 4096 (by omega)
    generalize Go.Proofs.Ytlkinjlbaeigdaa.tk.inside l[i].n 0 4096 = n at i1 i2 ⊢
    have e1 : rsZ n = 0 := by rw [z_rsZ]; exact if_neg (by omega)
    have hM : rsM tm n = (rsT ⟨tl, tj, tm⟩ n).most := by rw [z_rsM, rsT_m]
    obtain ⟨r1, r2⟩ := rsT_l ⟨tl, tj, tm⟩ n i1 (by omega)
    have hO := ok_rs ⟨tl, tj, tm⟩ n h2
    have hR := rel_res b k n ⟨ul, uj, um⟩ ⟨tl, tj, tm⟩ h5 i1 (by omega)
    refine ⟨⟨l1, by omega, by omega, by omega⟩, Go.Proofs.Ytlkinjlbaeigdaa.tb.isTb_mk ⟨tl, tj, tm⟩ h2, br_nb (by rw [e1]; rfl) ?_⟩
    cases b with
    | false => exact br_b rfl (fin _ ⟨ul, uj, um⟩ true n _ _ hO (by rw [r2]; omega) i1 (by omega) hR h3 h3' hM rfl)
    | true =>
      refine br_nb rfl (br_if (fun q => ?_) (fun q => ?_))
      · rw [if_pos rfl, if_pos q] at hR
        exact fin _ ⟨ul, uj, um⟩ true n _ _ hO (by rw [r2]; omega) i1 (by omega) hR h3 h3' hM rfl
      · rw [if_pos rfl, if_neg q] at hR
        exact fin _ ⟨ul, uj, um⟩ true k _ _ hO (by rw [r2]; omega) h4 h4' hR h3 h3' hM rfl
  refine ⟨⟨Nat.le_refl _, ⟨_, rfl, rfl, lw⟩⟩, br_intro (fun hl => fin ⟨tl, tj, tm⟩ ⟨ul, uj, um⟩ b k _ _ h2 h2' h4 h4' h5 h3 h3' rfl rfl) (fun hl => ?_)⟩
  have hl : Go.Proofs.Ytlkinjlbaeigdaa.pk.wSum l[i].l ≤ 3000 := by simpa using hl
  obtain ⟨e1, e2, e3, e4, e5⟩ := bk_mk l[i].l ⟨tl, tj, tm⟩ b k
  have hB := Go.Proofs.Ytlkinjlbaeigdaa.pk.blk_len l[i].l ⟨tl, tj, tm⟩ h2 (by omega)
  have hO := Go.Proofs.Ytlkinjlbaeigdaa.pk.ok_blk l[i].l ⟨tl, tj, tm⟩ h2
  have hm := Go.Proofs.Ytlkinjlbaeigdaa.pk.blk_m l[i].l ⟨tl, tj, tm⟩
  have wl := Go.Proofs.Ytlkinjlbaeigdaa.pk.ok_wlen l[i].l
  have hfl : ∀ w ∈ l[i].l, w.f.n.length ≤ 60000 ∧ w.f.v.length ≤ 60000 := fun w hw => by
    have := wmem l[i].l w hw
    unfold fbN at this; omega
  obtain ⟨v, v1, v2, v3, v4⟩ := blo_back 4096 2147483647 l[i].l ⟨tl, tj, tm⟩ ⟨ul, uj, um⟩ b k h2 h5 h2' (by omega) hfl (by omega)
  have hsl : (szs tm b k).length ≤ 12 := by
    obtain ⟨_, o2, o3⟩ := h2
    simp only at o2 o3
    have a1 := Go.Proofs.Ytlkinjlbaeigdaa.pk.putB_le 32 5 k.toNat (by omega)
    have a2 := Go.Proofs.Ytlkinjlbaeigdaa.pk.putB_le 32 5 tm.toNat (by omega)
    unfold szs
    split
    · rw [List.length_append]; split
      · omega
      · simp only [List.length_nil]; omega
    · simp
  generalize hOO : szs tm b k ++ (blk l[i].l ⟨tl, tj, tm⟩).1 = O at e1 e2 v2 v3 v4
  have hol : O.length ≤ 4000 := by rw [← hOO, List.length_append]; omega
  obtain ⟨u1, u2, u3, u4, u5, u6, u7, u8⟩ := ub_mk O 4096 2147483647 false ul uj um true (.cells true)
  have x1 : upE ⟨4096, 2147483647, O⟩ false ⟨ul, uj, um⟩ = 0 := v2
  have x2 : upW ⟨4096, 2147483647, O⟩ false ⟨ul, uj, um⟩ = blkW l[i].l ⟨tl, tj, tm⟩ := by unfold upW; rw [if_neg (by simp), if_neg (by rw [v2]; simp), v3]
  have x3 : upT ⟨4096, 2147483647, O⟩ false ⟨ul, uj, um⟩ = v := by unfold upT; rw [if_neg (by simp), v4]
  have x4 : upB ⟨4096, 2147483647, O⟩ false ⟨ul, uj, um⟩ = false := by unfold upB; rw [v2]; rfl
  rw [x1] at u1
  rw [x2] at u2 u3
  rw [x4] at u4
  rw [x3] at u5 u6 u7 u8
  have tk : List.take O.length (bCells O) = bCells O := bTake O
  have bl := blkW_len l[i].l ⟨tl, tj, tm⟩
  simp only [ofNat_eq, toNat_cast, Nat.zero_add, Nat.add_zero, Nat.mul_one, List.drop_zero, bCells_len, bCells_drop, bCells_take, bCells_app, bCells_one, bCells_plain, List.length_replicate, List.length_append, List.length_take, List.length_drop, List.take_length, and_true, true_and, and_self, decide_true, List.length_nil, List.length_cons, Nat.sub_zero, dB_mk, dB_ro, List.take_zero, e1, e2, e3, e4, e5, tk, u1, u2, u3, u4, u5, u6, u7, u8, bl, bCells_len, fPl, plW, Nat.le_refl, true_and, and_true]
  have okv : Ok v := by
    obtain ⟨a1, a2⟩ := v1
    obtain ⟨o1, o2, o3⟩ := hO
    unfold Ok
    rw [a1, a2]; exact ⟨o1, o2, o3⟩
  refine ⟨⟨⟨_, rfl, rfl, by omega⟩, ⟨tl, tj, rfl, rfl, rfl, h2⟩, h4, h4'⟩, ⟨⟨_, rfl, rfl, by omega⟩, ⟨ul, uj, rfl, rfl, rfl, h3⟩, by unfold TopP; omega⟩, br_nb rfl (br_nb (by simp) ?_)⟩
  refine ⟨⟨l, ⟨i, (blk l[i].l ⟨tl, tj, tm⟩).2, false, k, v⟩, l[i], blkW l[i].l ⟨tl, tj, tm⟩⟩, ⟨blkW_len _ _, lw.1, fun j q1 q2 => blkW_get _ _ j q2 q1⟩, rfl, rfl, bl, rfl, rfl, rfl, rfl, rfl, hm, rfl, rfl, rfl, rfl, rfl, rfl, rfl, rfl, rfl, rfl, fun side => br_side (fun _ _ => ?_) (fun _ h => h.elim) side⟩
  refine br_nb (by simp only [v1.1, bne_self_eq_false]) (br_nb (by simp only [v1.1, bne_self_eq_false]) ?_)
  exact ⟨⟨i + 1, (blk l[i].l ⟨tl, tj, tm⟩).2, false, k, v⟩, ⟨by simp only; omega, ⟨hO, by simp only; rw [hm]; exact h2'⟩, ⟨okv, by simp only; rw [v1.2, hm]; exact h2'⟩, ⟨h4, h4'⟩, ⟨fun _ => v1, fun e => by simp at e⟩⟩, by simp only; omega, rfl, w1.symm, rfl, rfl, rfl, rfl, rfl, rfl, rfl, rfl, rfl, rfl, rfl⟩
theorem gk_of {Q : Nat → Prop} {M : List (List Value)} (hL : ∀ c ∈ M, GCells Q [.p (.i .i64), .p (.i .i64), .sl 33 31 [.s, .s, .i .i64]] c) (hQ : ∀ n, Q n → n ≤ 1048576 := by intro n h; exact h) :
    ∃ a : List Ak, a.length = M.length ∧ M.flatten = gC enK a ∧ ∀ x ∈ a, AkOk x := by
  induction M with
  | nil => exact ⟨[], rfl, rfl, fun x hx => by simp at hx⟩
  | cons c M ih =>
    obtain ⟨a, h1, h2, h3⟩ := ih (fun d hd => hL d (List.mem_cons_of_mem _ hd))
    have hc := hL c (List.mem_cons_self ..)
    match c, hc with
    | [v0, v1, v2], hc =>
      obtain ⟨f0, f1, f2, _⟩ := hc
      obtain ⟨k, rfl, w0⟩ := cq_i f0
      obtain ⟨n, rfl, w1⟩ := cq_i f1
      obtain ⟨m, cells, rfl, hel, hm, hq⟩ := f2
      obtain ⟨fs, y1, y2, y3⟩ := hel.data (α := PW) Go.Proofs.Ytlkinjlbaeigdaa.pk.enW (fun w => Q w.f.n.length ∧ Q w.f.v.length) (fun c hc => by
        match c, hc with
        | [x, y, z], hc =>
          obtain ⟨c1, c2, c3, _⟩ := hc
          obtain ⟨s, rfl, w1, b1⟩ := cq_s c1
          obtain ⟨t, rfl, w2, b2⟩ := cq_s c2
          obtain ⟨h, rfl, w3⟩ := cq_i c3
          exact ⟨⟨⟨L s, L t⟩, h⟩, rfl, b1, b2⟩)
      have y2 : cells = gC Go.Proofs.Ytlkinjlbaeigdaa.pk.enW fs := y2
      subst y2; subst y1
      refine ⟨⟨k, n, fs⟩ :: a, by rw [List.length_cons, List.length_cons, h1], by rw [List.flatten_cons, h2, gC_cons]; rfl, ?_⟩
      intro x hx
      rcases List.mem_cons.1 hx with rfl | hx
      · exact ⟨⟨Sy.wf64 w0, Sy.wf64 w1⟩, hQ _ hq, fun f hf => ⟨hQ _ (y3 f hf).1, hQ _ (y3 f hf).2⟩⟩
      · exact h3 x hx
theorem Bk_law (l : List Ak) (hl : l.length ≤ 1048576) (h : ∀ a ∈ l, AkOk a) : Con Try.prog 5 [.slice (some ⟨0, 0, none⟩) l.length 3] [gRo enK l] (.bool true) [gRo enK l] := by
  refine con_vc (E := EtB) tk.mixed (calls_envT tB_ok) (lok_envT _ _) (M := mB) (lm_one B_piece) (B_vc l) ?_
  simp only [ofNat_eq, toNat_cast, Nat.zero_add, Nat.add_zero, Nat.mul_one, List.drop_zero, bCells_len, bCells_drop, bCells_take, bCells_app, bCells_one, bCells_plain, List.length_replicate, List.length_append, List.length_take, List.length_drop, List.take_length, and_true, true_and, and_self, decide_true, List.length_nil, List.length_cons, Nat.sub_zero, dB_mk, dB_ro, List.take_zero, z_smZ, fPl, plW, enK_pl]
  exact ⟨l, h, rfl, rfl, rfl, rfl, fun side => br_side (fun _ _ => rfl) (fun _ h => h.elim) side⟩
end Go.Proofs.Ytlkinjlbaeigdaa.pb
