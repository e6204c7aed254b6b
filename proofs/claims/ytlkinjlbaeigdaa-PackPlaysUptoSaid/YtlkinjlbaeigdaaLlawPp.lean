/- PackPlays: any rows written, the size changed between: each block, and the table, are what the document says; rows stay. -/
import Derived.Test.YtlkinjlbaeigdaaSz9
import Derived.Test.YtlkinjlbaeigdaaRows
import Derived.Test.YtlkinjlbaeigdaaLrpB
import Derived.Test.YtlkinjlbaeigdaaLwbook
import Derived.Test.YtlkinjlbaeigdaaLlawPk
set_option maxRecDepth 20000
set_option linter.unusedSimpArgs false
set_option linter.unusedVariables false
namespace Go.Proofs.Ytlkinjlbaeigdaa.pk
open Go Go.Ev Go.Sy Go.RowKit Go.Proofs.Ytlkinjlbaeigdaa.gl Go.Proofs.Ytlkinjlbaeigdaa.tk Go.Proofs.Ytlkinjlbaeigdaa.hf Go.Proofs.Ytlkinjlbaeigdaa.s3 Go.Proofs.Ytlkinjlbaeigdaa.tb Go.Proofs.Ytlkinjlbaeigdaa.sh Go.Proofs.Ytlkinjlbaeigdaa.wb
theorem sl_ex {α : Type} (f : α) : ∃ g : α, g = f := ⟨f, rfl⟩
noncomputable def sealV {α : Type} (f : α) : α := Classical.choose (sl_ex f)
theorem sealV_eq {α : Type} (f : α) : sealV f = f := Classical.choose_spec (sl_ex f)
structure Ak where
  k : Int
  n : Int
  l : List Wr
noncomputable def enK (a : Ak) : List Value := [.int .i64 a.k, .int .i64 a.n, .slice (some ⟨gCode (gC enW a.l), 0, some 0⟩) a.l.length 3]
noncomputable def pdW : Row → Value → List Value := sealV fun r m => r.cells ++ (List.replicate 80 [.string ⟨#[]⟩, .string ⟨#[]⟩, m]).flatten
noncomputable def inW : Row → Row → Int → Bool := sealV fun a b m => sameSe (decW a.cells) (decW b.cells ++ List.replicate 80 ⟨⟨[], []⟩, m⟩)
def IsWl (r : Row) (n : Nat) : Prop := ∃ l, r = gRo enW l ∧ n = l.length
noncomputable def eRoW : EntM := entC 18 fun a r => match a, r with
  | [.slice (some ⟨0, 0, none⟩) n 3, .agg ⟨[.string a, .string b, .int .i64 m]⟩], [r0] => some (IsWl r0 n ∧ n ≤ 16777136 ∧ a = ⟨#[]⟩ ∧ b = ⟨#[]⟩, .slice (some ⟨1, 0, none⟩) (n + 80) 3, [⟨pdW r0 (.int .i64 m), false, .cells true⟩])
  | _, _ => none
noncomputable def eInW : EntM := entC 20 fun a r => match a, r with
  | [.slice (some ⟨0, 0, none⟩) n 3, .slice (some ⟨1, 0, none⟩) n2 3, .agg ⟨[.string a, .string b, .int .i64 m]⟩], [r0, r1] => some (IsWl r0 n ∧ IsWl r1 n2 ∧ n ≤ maxLen ∧ n2 ≤ 9223372036854775000 ∧ a = ⟨#[]⟩ ∧ b = ⟨#[]⟩, .bool (inW r0 r1 m), [])
  | _, _ => none
noncomputable def tPp : List EntM := [eLi, eRunsP, eSameB, eBlk, eRBk, eResT, eResR, eSzR, eRoW, eInW]
noncomputable abbrev EtPp : Env := envT Try.prog tPp
def pPp : List Nat := [0, 1, 0, 1, 1, 1, 1, 1, 1]
structure SPp where
  i : Nat
  t : Tb
  b : Bool
  k : Int
  w : Int
noncomputable def kkR : Bool → Int → Int := sealV fun b k => if b then k else -1
noncomputable def slPp (l : List Ak) (s : SPp) : List (Nat × Value) := [(1, .slice (some ⟨0, 0, none⟩) l.length 3), (5, .pointer (some ⟨1, 0, none⟩)), (9, .pointer (some ⟨3, 0, none⟩)), (10, .int .i64 (s.i : Nat))]
noncomputable def rlPp (l : List Ak) (s : SPp) : List (Nat × Row) := [(0, gRo enK l), (1, ⟨[.pointer (some ⟨2, 0, none⟩), .bool s.b, .int .i64 s.k], false, .cells false⟩), (2, tcR s.t.l.length (smZ s.t.l s.t.l.length : Nat) s.t.most 5), (3, ⟨[.pointer (some ⟨4, 0, none⟩), .int .i64 (kkR s.b s.k), .int .i64 s.w], false, .cells false⟩), (4, rtC s.t.l.length s.t.most 6), (5, gOwn enF (s.t.l ++ s.t.j)), (6, gOwn enF (s.t.l ++ s.t.j))]
noncomputable def wsPp (l : List Ak) : List (Gate Unit) := [⟨.exit 0, fun _ => True, fun _ => [], fun _ => [(0, gRo enK l)], 7⟩]
def s0Pp (m : Int) : SPp := ⟨0, ⟨[], [], m⟩, false, 0, 0⟩
structure GPp where
  l : List Ak
  m : Int
def AkOk (a : Ak) : Prop := (I64 a.k ∧ I64 a.n) ∧ wOk a.l
noncomputable def specPp : Sy.Spec := specOf 1 7 133 (fun g : GPp => (∀ a ∈ g.l, AkOk a) ∧ 0 ≤ g.m ∧ g.m ≤ 65536) (fun g => slPp g.l (s0Pp g.m)) (fun g => rlPp g.l (s0Pp g.m)) (fun g => wsPp g.l)
noncomputable def mPp := mOf [(4, pPp, specPp)]
theorem Pp_round (l : List Ak) (s : SPp) (Inv : SPp → Prop) (m : SPp → Nat) : mev EtPp noM 60 4 (0 :: pPp) false (codeOf Try.prog 4 (0 :: pPp)) ⟨mkOv (slPp l s), 133, []⟩ none ⟨mkR (rlPp l s), 7⟩ (roundK 1 7 133 Inv m (slPp l) (rlPp l) (wsPp l) s) =
  let z1 := (cellI (gC enK l) (0 + Int.toNat (↑s.1 : Int) * 3 + 1)); let z2 := (Row.mk (gC enF (s.2.1 ++ s.2.2)) false (Ob.cells true)); let z3 := (Row.mk (List.take (cellN
  (gC enK l) (0 + Int.toNat (↑s.1 : Int) * 3 + 1 + 1) * 3) (List.drop (cellO (gC enK l) (0 + Int.toNat (↑s.1 : Int) * 3 + 1 + 1)) (gCells (cellZ (gC enK l) (0 + Int.toNat
  (↑s.1 : Int) * 3 + 1 + 1))))) true (Ob.cells true)); let z4 := (Value.pointer (some (Addr.mk 2 0 none)) = Value.pointer (some (Addr.mk 2 0 none))); let z5 := (((True /\
  True) /\ (((True /\ (True /\ True)) /\ (Plain (rsC z2 (List.length s.2.1) s.2.3 z1) /\ True)) /\ ((Plain (rsC z2 (List.length s.2.1) s.2.3 z1) /\ True) /\ IsTr (Row.mk
  (rsC z2 (List.length s.2.1) s.2.3 z1) false (Ob.cells true)) (rsN z2 (List.length s.2.1) s.2.3 z1))))); let z11 := (cellN (gC enK l) (0 + Int.toNat (↑s.1 : Int) * 3 + 1 +
  1)); let z22 := (List.drop 0 (pdW z3 (Value.int IntKind.i64 (8 : Int)))); let z6 := (Row.mk (List.take ((Int.toNat (Int.ofNat z11) - 0) * 3) z22) true (Ob.cells true));
  let z7 := (Value.slice (some (Addr.mk (cellZ (gC enK l) (0 + Int.toNat (↑s.1 : Int) * 3 + 1 + 1)) (cellO (gC enK l) (0 + Int.toNat (↑s.1 : Int) * 3 + 1 + 1)) (some 0)))
  z11 3 = Value.slice (some (Addr.mk (cellZ (gC enK l) (0 + Int.toNat (↑s.1 : Int) * 3 + 1 + 1)) (cellO (gC enK l) (0 + Int.toNat (↑s.1 : Int) * 3 + 1 + 1)) (some 0))) z11
  3); let z8 := (Value.int IntKind.i64 z1 = Value.int IntKind.i64 z1); let z9 := (rsS z2 (List.length s.2.1) s.2.3 z1 != szR (Row.mk (rsC z2 (List.length s.2.1) s.2.3 z1)
  false (Ob.cells true)) (rsN z2 (List.length s.2.1) s.2.3 z1)); let z10 := (Int.ofNat (rsN z2 (List.length s.2.1) s.2.3 z1) != Int.ofNat (rsN z2 (List.length s.2.1) s.2.3
  z1)); let z28 := ((True /\ (True /\ True)) /\ (Plain (gC enF (s.2.1 ++ s.2.2)) /\ True)); let z12 := (((True /\ (True /\ True)) /\ (z28 /\ ((Plain (rsC z2 (List.length
  s.2.1) s.2.3 z1) /\ True) /\ IsTb z2 (List.length s.2.1) (szR z2 (List.length s.2.1)))))); let z13 := (cellN (gC enK l) (0 + Int.toNat (↑s.1 : Int) * 3 + 1 + 1) + 80); let
  z14 := (buC z3 z2 (List.length s.2.1) s.2.3 (decide ((0 : Int) <= kkR s.3 s.4)) (kkR s.3 s.4)); let z25 := (bkB z3 z2 (List.length s.2.1) s.2.3 (decide ((0 : Int) <= kkR
  s.3 s.4)) (kkR s.3 s.4)); let z15 := (List.take (bkN z3 z2 (List.length s.2.1) s.2.3 (decide ((0 : Int) <= kkR s.3 s.4)) (kkR s.3 s.4) * 1) (List.drop 0 z25)); let z16 :=
  (cellO (gC enK l) (0 + Int.toNat (↑s.1 : Int) * 3 + 1 + 1) + cellN (gC enK l) (0 + Int.toNat (↑s.1 : Int) * 3 + 1 + 1) * 3 <= List.length (gCells (cellZ (gC enK l) (0 +
  Int.toNat (↑s.1 : Int) * 3 + 1 + 1))) /\ ((True /\ (True /\ (True /\ True))) /\ True)); let z31 := (bkB z6 z2 (List.length s.2.1) s.2.3 s.3 s.4); let z17 := (List.take
  (bkN z6 z2 (List.length s.2.1) s.2.3 s.3 s.4 * 1) (List.drop 0 z31)); let z18 := (decide (cellI (gC enK l) (0 + Int.toNat (↑s.1 : Int) * 3 + 1) < kkR s.3 s.4)); let z19 :=
  (cellO (gC enK l) (0 + Int.toNat (↑s.1 : Int) * 3 + 1 + 1) + cellN (gC enK l) (0 + Int.toNat (↑s.1 : Int) * 3 + 1 + 1) * 3 <= List.length (gCells (cellZ (gC enK l) (0 +
  Int.toNat (↑s.1 : Int) * 3 + 1 + 1))) /\ True); let z20 := (decide ((0 : Int) <= (↑0 : Int) /\ (0 : Int) <= Int.ofNat z11 /\ Int.ofNat z11 <= (↑z13 : Int))); let z21 :=
  (buN z3 z2 (List.length s.2.1) s.2.3 (decide ((0 : Int) <= kkR s.3 s.4)) (kkR s.3 s.4)); let z23 := (Value.slice (some (Addr.mk 10 0 none)) (Int.toNat (Int.ofNat z11) - 0)
  3 = Value.slice (some (Addr.mk 10 0 none)) (Int.toNat (Int.ofNat z11) - 0) 3); let z24 := ((True) /\ ((Eq (α := List Value) (gC enK l) (gC enK l)) /\ ((Plain (gC enK l))
  /\ True))); let z26 := ((True /\ (True /\ (True /\ True))) /\ (Plain (gC enF (s.2.1 ++ s.2.2)) /\ True)); let z27 := (ByteArray.mk #[] = ByteArray.mk #[] /\ ByteArray.mk
  #[] = ByteArray.mk #[]); let z29 := (Row.mk (List.take (z13 * 3) z22) true (Ob.cells true)); let z30 := (buC z6 z2 (List.length s.2.1) s.2.3 s.3 s.4); (br (decide ((↑s.1 :
  Int) < Int.ofNat (List.length l))) (br (decide ((↑s.1 : Int) < (15 : Int))) (br (decide ((0 : Int) <= (↑s.1 : Int) /\ (↑s.1 : Int) < (↑(List.length l) : Int))) ((Eq (α :=
  Option Value) ((gC enK l)[0 + Int.toNat (↑s.1 : Int) * 3]?) (some (Value.int IntKind.i64 (cellI (gC enK l) (0 + Int.toNat (↑s.1 : Int) * 3))))) /\ ((Eq (α := Option Value)
  ((gC enK l)[0 + Int.toNat (↑s.1 : Int) * 3 + 1]?) (some (Value.int IntKind.i64 z1))) /\ ((Eq (α := Option Value) ((gC enK l)[0 + Int.toNat (↑s.1 : Int) * 3 + 1 + 1]?)
  (some (Value.slice (some (Addr.mk (cellZ (gC enK l) (0 + Int.toNat (↑s.1 : Int) * 3 + 1 + 1)) (cellO (gC enK l) (0 + Int.toNat (↑s.1 : Int) * 3 + 1 + 1)) (some 0))) z11
  3))) /\ (br (cellI (gC enK l) (0 + Int.toNat (↑s.1 : Int) * 3) == (2 : Int)) ((((True /\ (True /\ True)) /\ (z26 /\ ((Plain (rsC z2 (List.length s.2.1) s.2.3 z1) /\ True)
  /\ IsTb z2 (List.length s.2.1) (↑(smZ s.2.1 (List.length s.2.1)) : Int))))) /\ (br (rsZ z1 != (0 : Int)) (z12 /\ (br (rsZ z1 != (0 : Int)) (z8 /\ (z8 /\ (z8 /\ (br (rsZ z1
  != rsZ z1) False (z4 /\ (z4 /\ (z4 /\ (z4 /\ (z4 /\ (z4 /\ (br z10 False (z5 /\ (br z9 False (br (rsM s.2.3 z1 != rsM s.2.3 z1) False (∃ j : SPp, ((Inv j) /\ ((m j < m s)
  /\ ((0 = 0) /\ ((List.length l = List.length l) /\ ((0 = 0) /\ ((0 = 0) /\ (((↑j.1 : Int) = IntKind.wrap IntKind.i64 ((↑s.1 : Int) + (1 : Int))) /\ ((Eq (α := List Value)
  (gC enK l) (gC enK l)) /\ ((Plain (gC enK l)) /\ ((0 = 0) /\ ((j.3 = s.3) /\ ((j.4 = s.4) /\ ((0 = 0) /\ ((List.length j.2.1 = rsN z2 (List.length s.2.1) s.2.3 z1) /\
  (((↑(smZ j.2.1 (List.length j.2.1)) : Int) = rsS z2 (List.length s.2.1) s.2.3 z1) /\ ((j.2.3 = rsM s.2.3 z1) /\ ((0 = 0) /\ ((kkR j.3 j.4 = kkR s.3 s.4) /\ ((j.5 = s.5) /\
  ((0 = 0) /\ ((List.length j.2.1 = rsN z2 (List.length s.2.1) s.2.3 z1) /\ ((j.2.3 = rsM s.2.3 z1) /\ ((Eq (α := List Value) (gC enF (j.2.1 ++ j.2.2)) (rsC z2 (List.length
  s.2.1) s.2.3 z1)) /\ ((Plain (gC enF (j.2.1 ++ j.2.2))) /\ ((Eq (α := List Value) (gC enF (j.2.1 ++ j.2.2)) (rsC z2 (List.length s.2.1) s.2.3 z1)) /\ ((Plain (gC enF
  (j.2.1 ++ j.2.2))) /\ True))))))))))))))))))))))))))))))))))))))))) (br (decide (kkR s.3 s.4 < (0 : Int))) (z8 /\ (z8 /\ (z8 /\ (br (rsZ z1 != (0 : Int)) False (z4 /\ (z4
  /\ (z4 /\ (z4 /\ (z4 /\ (z4 /\ (br z10 False (z5 /\ (br z9 False (br (rsM s.2.3 z1 != rsM s.2.3 z1) False (∃ j : SPp, ((Inv j) /\ ((m j < m s) /\ ((0 = 0) /\ ((List.length
  l = List.length l) /\ ((0 = 0) /\ ((0 = 0) /\ (((↑j.1 : Int) = IntKind.wrap IntKind.i64 ((↑s.1 : Int) + (1 : Int))) /\ ((Eq (α := List Value) (gC enK l) (gC enK l)) /\
  ((Plain (gC enK l)) /\ ((0 = 0) /\ ((j.3 = s.3) /\ ((j.4 = s.4) /\ ((0 = 0) /\ ((List.length j.2.1 = rsN z2 (List.length s.2.1) s.2.3 z1) /\ (((↑(smZ j.2.1 (List.length
  j.2.1)) : Int) = rsS z2 (List.length s.2.1) s.2.3 z1) /\ ((j.2.3 = rsM s.2.3 z1) /\ ((0 = 0) /\ ((kkR j.3 j.4 = cellI (gC enK l) (0 + Int.toNat (↑s.1 : Int) * 3 + 1)) /\
  ((j.5 = cellI (gC enK l) (0 + Int.toNat (↑s.1 : Int) * 3 + 1)) /\ ((0 = 0) /\ ((List.length j.2.1 = rsN z2 (List.length s.2.1) s.2.3 z1) /\ ((j.2.3 = rsM s.2.3 z1) /\ ((Eq
  (α := List Value) (gC enF (j.2.1 ++ j.2.2)) (rsC z2 (List.length s.2.1) s.2.3 z1)) /\ ((Plain (gC enF (j.2.1 ++ j.2.2))) /\ ((Eq (α := List Value) (gC enF (j.2.1 ++
  j.2.2)) (rsC z2 (List.length s.2.1) s.2.3 z1)) /\ ((Plain (gC enF (j.2.1 ++ j.2.2))) /\ True))))))))))))))))))))))))))))))))))))))))) (br z18 (z8 /\ (z8 /\ (z8 /\ (br (rsZ
  z1 != (0 : Int)) False (z4 /\ (z4 /\ (z4 /\ (z4 /\ (z4 /\ (z4 /\ (br z10 False (z5 /\ (br z9 False (br (rsM s.2.3 z1 != rsM s.2.3 z1) False (∃ j : SPp, ((Inv j) /\ ((m j <
  m s) /\ ((0 = 0) /\ ((List.length l = List.length l) /\ ((0 = 0) /\ ((0 = 0) /\ (((↑j.1 : Int) = IntKind.wrap IntKind.i64 ((↑s.1 : Int) + (1 : Int))) /\ ((Eq (α := List
  Value) (gC enK l) (gC enK l)) /\ ((Plain (gC enK l)) /\ ((0 = 0) /\ ((j.3 = s.3) /\ ((j.4 = s.4) /\ ((0 = 0) /\ ((List.length j.2.1 = rsN z2 (List.length s.2.1) s.2.3 z1)
  /\ (((↑(smZ j.2.1 (List.length j.2.1)) : Int) = rsS z2 (List.length s.2.1) s.2.3 z1) /\ ((j.2.3 = rsM s.2.3 z1) /\ ((0 = 0) /\ ((kkR j.3 j.4 = cellI (gC enK l) (0 +
  Int.toNat (↑s.1 : Int) * 3 + 1)) /\ ((j.5 = cellI (gC enK l) (0 + Int.toNat (↑s.1 : Int) * 3 + 1)) /\ ((0 = 0) /\ ((List.length j.2.1 = rsN z2 (List.length s.2.1) s.2.3
  z1) /\ ((j.2.3 = rsM s.2.3 z1) /\ ((Eq (α := List Value) (gC enF (j.2.1 ++ j.2.2)) (rsC z2 (List.length s.2.1) s.2.3 z1)) /\ ((Plain (gC enF (j.2.1 ++ j.2.2))) /\ ((Eq (α
  := List Value) (gC enF (j.2.1 ++ j.2.2)) (rsC z2 (List.length s.2.1) s.2.3 z1)) /\ ((Plain (gC enF (j.2.1 ++ j.2.2))) /\ True))))))))))))))))))))))))))))))))))))))))) (z8
  /\ (z8 /\ (z8 /\ (br (rsZ z1 != (0 : Int)) False (z4 /\ (z4 /\ (z4 /\ (z4 /\ (z4 /\ (z4 /\ (br z10 False (z5 /\ (br z9 False (br (rsM s.2.3 z1 != rsM s.2.3 z1) False (∃ j
  : SPp, ((Inv j) /\ ((m j < m s) /\ ((0 = 0) /\ ((List.length l = List.length l) /\ ((0 = 0) /\ ((0 = 0) /\ (((↑j.1 : Int) = IntKind.wrap IntKind.i64 ((↑s.1 : Int) + (1 :
  Int))) /\ ((Eq (α := List Value) (gC enK l) (gC enK l)) /\ ((Plain (gC enK l)) /\ ((0 = 0) /\ ((j.3 = s.3) /\ ((j.4 = s.4) /\ ((0 = 0) /\ ((List.length j.2.1 = rsN z2
  (List.length s.2.1) s.2.3 z1) /\ (((↑(smZ j.2.1 (List.length j.2.1)) : Int) = rsS z2 (List.length s.2.1) s.2.3 z1) /\ ((j.2.3 = rsM s.2.3 z1) /\ ((0 = 0) /\ ((kkR j.3 j.4
  = kkR s.3 s.4) /\ ((j.5 = cellI (gC enK l) (0 + Int.toNat (↑s.1 : Int) * 3 + 1)) /\ ((0 = 0) /\ ((List.length j.2.1 = rsN z2 (List.length s.2.1) s.2.3 z1) /\ ((j.2.3 = rsM
  s.2.3 z1) /\ ((Eq (α := List Value) (gC enF (j.2.1 ++ j.2.2)) (rsC z2 (List.length s.2.1) s.2.3 z1)) /\ ((Plain (gC enF (j.2.1 ++ j.2.2))) /\ ((Eq (α := List Value) (gC
  enF (j.2.1 ++ j.2.2)) (rsC z2 (List.length s.2.1) s.2.3 z1)) /\ ((Plain (gC enF (j.2.1 ++ j.2.2))) /\ True))))))))))))))))))))))))))))))))))))))))))))) (br (!s.3) (z12 /\
  (br (rsZ z1 != (0 : Int)) (z8 /\ (z8 /\ (z8 /\ (br ((0 : Int) != rsZ z1) False (z4 /\ (z4 /\ (z4 /\ (z4 /\ (z4 /\ (z4 /\ (br z10 False (z5 /\ (br z9 False (br (rsM s.2.3
  z1 != rsM s.2.3 z1) False (∃ j : SPp, ((Inv j) /\ ((m j < m s) /\ ((0 = 0) /\ ((List.length l = List.length l) /\ ((0 = 0) /\ ((0 = 0) /\ (((↑j.1 : Int) = IntKind.wrap
  IntKind.i64 ((↑s.1 : Int) + (1 : Int))) /\ ((Eq (α := List Value) (gC enK l) (gC enK l)) /\ ((Plain (gC enK l)) /\ ((0 = 0) /\ ((j.3 = true) /\ ((j.4 = cellI (gC enK l) (0
  + Int.toNat (↑s.1 : Int) * 3 + 1)) /\ ((0 = 0) /\ ((List.length j.2.1 = rsN z2 (List.length s.2.1) s.2.3 z1) /\ (((↑(smZ j.2.1 (List.length j.2.1)) : Int) = rsS z2
  (List.length s.2.1) s.2.3 z1) /\ ((j.2.3 = rsM s.2.3 z1) /\ ((0 = 0) /\ ((kkR j.3 j.4 = kkR s.3 s.4) /\ ((j.5 = s.5) /\ ((0 = 0) /\ ((List.length j.2.1 = rsN z2
  (List.length s.2.1) s.2.3 z1) /\ ((j.2.3 = rsM s.2.3 z1) /\ ((Eq (α := List Value) (gC enF (j.2.1 ++ j.2.2)) (rsC z2 (List.length s.2.1) s.2.3 z1)) /\ ((Plain (gC enF
  (j.2.1 ++ j.2.2))) /\ ((Eq (α := List Value) (gC enF (j.2.1 ++ j.2.2)) (rsC z2 (List.length s.2.1) s.2.3 z1)) /\ ((Plain (gC enF (j.2.1 ++ j.2.2))) /\
  True))))))))))))))))))))))))))))))))))))))))) (br (decide (kkR s.3 s.4 < (0 : Int))) (z8 /\ (z8 /\ (z8 /\ (z4 /\ (z4 /\ (z4 /\ (z4 /\ (z4 /\ (z4 /\ (br z10 False (z5 /\
  (br z9 False (br (rsM s.2.3 z1 != rsM s.2.3 z1) False (∃ j : SPp, ((Inv j) /\ ((m j < m s) /\ ((0 = 0) /\ ((List.length l = List.length l) /\ ((0 = 0) /\ ((0 = 0) /\
  (((↑j.1 : Int) = IntKind.wrap IntKind.i64 ((↑s.1 : Int) + (1 : Int))) /\ ((Eq (α := List Value) (gC enK l) (gC enK l)) /\ ((Plain (gC enK l)) /\ ((0 = 0) /\ ((j.3 = true)
  /\ ((j.4 = cellI (gC enK l) (0 + Int.toNat (↑s.1 : Int) * 3 + 1)) /\ ((0 = 0) /\ ((List.length j.2.1 = rsN z2 (List.length s.2.1) s.2.3 z1) /\ (((↑(smZ j.2.1 (List.length
  j.2.1)) : Int) = rsS z2 (List.length s.2.1) s.2.3 z1) /\ ((j.2.3 = rsM s.2.3 z1) /\ ((0 = 0) /\ ((kkR j.3 j.4 = cellI (gC enK l) (0 + Int.toNat (↑s.1 : Int) * 3 + 1)) /\
  ((j.5 = cellI (gC enK l) (0 + Int.toNat (↑s.1 : Int) * 3 + 1)) /\ ((0 = 0) /\ ((List.length j.2.1 = rsN z2 (List.length s.2.1) s.2.3 z1) /\ ((j.2.3 = rsM s.2.3 z1) /\ ((Eq
  (α := List Value) (gC enF (j.2.1 ++ j.2.2)) (rsC z2 (List.length s.2.1) s.2.3 z1)) /\ ((Plain (gC enF (j.2.1 ++ j.2.2))) /\ ((Eq (α := List Value) (gC enF (j.2.1 ++
  j.2.2)) (rsC z2 (List.length s.2.1) s.2.3 z1)) /\ ((Plain (gC enF (j.2.1 ++ j.2.2))) /\ True)))))))))))))))))))))))))))))))))))))))) (br z18 (z8 /\ (z8 /\ (z8 /\ (z4 /\
  (z4 /\ (z4 /\ (z4 /\ (z4 /\ (z4 /\ (br z10 False (z5 /\ (br z9 False (br (rsM s.2.3 z1 != rsM s.2.3 z1) False (∃ j : SPp, ((Inv j) /\ ((m j < m s) /\ ((0 = 0) /\
  ((List.length l = List.length l) /\ ((0 = 0) /\ ((0 = 0) /\ (((↑j.1 : Int) = IntKind.wrap IntKind.i64 ((↑s.1 : Int) + (1 : Int))) /\ ((Eq (α := List Value) (gC enK l) (gC
  enK l)) /\ ((Plain (gC enK l)) /\ ((0 = 0) /\ ((j.3 = true) /\ ((j.4 = cellI (gC enK l) (0 + Int.toNat (↑s.1 : Int) * 3 + 1)) /\ ((0 = 0) /\ ((List.length j.2.1 = rsN z2
  (List.length s.2.1) s.2.3 z1) /\ (((↑(smZ j.2.1 (List.length j.2.1)) : Int) = rsS z2 (List.length s.2.1) s.2.3 z1) /\ ((j.2.3 = rsM s.2.3 z1) /\ ((0 = 0) /\ ((kkR j.3 j.4
  = cellI (gC enK l) (0 + Int.toNat (↑s.1 : Int) * 3 + 1)) /\ ((j.5 = cellI (gC enK l) (0 + Int.toNat (↑s.1 : Int) * 3 + 1)) /\ ((0 = 0) /\ ((List.length j.2.1 = rsN z2
  (List.length s.2.1) s.2.3 z1) /\ ((j.2.3 = rsM s.2.3 z1) /\ ((Eq (α := List Value) (gC enF (j.2.1 ++ j.2.2)) (rsC z2 (List.length s.2.1) s.2.3 z1)) /\ ((Plain (gC enF
  (j.2.1 ++ j.2.2))) /\ ((Eq (α := List Value) (gC enF (j.2.1 ++ j.2.2)) (rsC z2 (List.length s.2.1) s.2.3 z1)) /\ ((Plain (gC enF (j.2.1 ++ j.2.2))) /\
  True)))))))))))))))))))))))))))))))))))))))) (z8 /\ (z8 /\ (z8 /\ (z4 /\ (z4 /\ (z4 /\ (z4 /\ (z4 /\ (z4 /\ (br z10 False (z5 /\ (br z9 False (br (rsM s.2.3 z1 != rsM
  s.2.3 z1) False (∃ j : SPp, ((Inv j) /\ ((m j < m s) /\ ((0 = 0) /\ ((List.length l = List.length l) /\ ((0 = 0) /\ ((0 = 0) /\ (((↑j.1 : Int) = IntKind.wrap IntKind.i64
  ((↑s.1 : Int) + (1 : Int))) /\ ((Eq (α := List Value) (gC enK l) (gC enK l)) /\ ((Plain (gC enK l)) /\ ((0 = 0) /\ ((j.3 = true) /\ ((j.4 = cellI (gC enK l) (0 + Int.toNat
  (↑s.1 : Int) * 3 + 1)) /\ ((0 = 0) /\ ((List.length j.2.1 = rsN z2 (List.length s.2.1) s.2.3 z1) /\ (((↑(smZ j.2.1 (List.length j.2.1)) : Int) = rsS z2 (List.length s.2.1)
  s.2.3 z1) /\ ((j.2.3 = rsM s.2.3 z1) /\ ((0 = 0) /\ ((kkR j.3 j.4 = kkR s.3 s.4) /\ ((j.5 = cellI (gC enK l) (0 + Int.toNat (↑s.1 : Int) * 3 + 1)) /\ ((0 = 0) /\
  ((List.length j.2.1 = rsN z2 (List.length s.2.1) s.2.3 z1) /\ ((j.2.3 = rsM s.2.3 z1) /\ ((Eq (α := List Value) (gC enF (j.2.1 ++ j.2.2)) (rsC z2 (List.length s.2.1) s.2.3
  z1)) /\ ((Plain (gC enF (j.2.1 ++ j.2.2))) /\ ((Eq (α := List Value) (gC enF (j.2.1 ++ j.2.2)) (rsC z2 (List.length s.2.1) s.2.3 z1)) /\ ((Plain (gC enF (j.2.1 ++ j.2.2)))
  /\ True)))))))))))))))))))))))))))))))))))))))))))) (br (decide (cellI (gC enK l) (0 + Int.toNat (↑s.1 : Int) * 3 + 1) < s.4)) (z12 /\ (br (rsZ z1 != (0 : Int)) (z8 /\ (z8
  /\ (z8 /\ (br ((0 : Int) != rsZ z1) False (z4 /\ (z4 /\ (z4 /\ (z4 /\ (z4 /\ (z4 /\ (br z10 False (z5 /\ (br z9 False (br (rsM s.2.3 z1 != rsM s.2.3 z1) False (∃ j : SPp,
  ((Inv j) /\ ((m j < m s) /\ ((0 = 0) /\ ((List.length l = List.length l) /\ ((0 = 0) /\ ((0 = 0) /\ (((↑j.1 : Int) = IntKind.wrap IntKind.i64 ((↑s.1 : Int) + (1 : Int)))
  /\ ((Eq (α := List Value) (gC enK l) (gC enK l)) /\ ((Plain (gC enK l)) /\ ((0 = 0) /\ ((j.3 = true) /\ ((j.4 = cellI (gC enK l) (0 + Int.toNat (↑s.1 : Int) * 3 + 1)) /\
  ((0 = 0) /\ ((List.length j.2.1 = rsN z2 (List.length s.2.1) s.2.3 z1) /\ (((↑(smZ j.2.1 (List.length j.2.1)) : Int) = rsS z2 (List.length s.2.1) s.2.3 z1) /\ ((j.2.3 =
  rsM s.2.3 z1) /\ ((0 = 0) /\ ((kkR j.3 j.4 = kkR s.3 s.4) /\ ((j.5 = s.5) /\ ((0 = 0) /\ ((List.length j.2.1 = rsN z2 (List.length s.2.1) s.2.3 z1) /\ ((j.2.3 = rsM s.2.3
  z1) /\ ((Eq (α := List Value) (gC enF (j.2.1 ++ j.2.2)) (rsC z2 (List.length s.2.1) s.2.3 z1)) /\ ((Plain (gC enF (j.2.1 ++ j.2.2))) /\ ((Eq (α := List Value) (gC enF
  (j.2.1 ++ j.2.2)) (rsC z2 (List.length s.2.1) s.2.3 z1)) /\ ((Plain (gC enF (j.2.1 ++ j.2.2))) /\ True))))))))))))))))))))))))))))))))))))))))) (br (decide (kkR s.3 s.4 <
  (0 : Int))) (z8 /\ (z8 /\ (z8 /\ (z4 /\ (z4 /\ (z4 /\ (z4 /\ (z4 /\ (z4 /\ (br z10 False (z5 /\ (br z9 False (br (rsM s.2.3 z1 != rsM s.2.3 z1) False (∃ j : SPp, ((Inv j)
  /\ ((m j < m s) /\ ((0 = 0) /\ ((List.length l = List.length l) /\ ((0 = 0) /\ ((0 = 0) /\ (((↑j.1 : Int) = IntKind.wrap IntKind.i64 ((↑s.1 : Int) + (1 : Int))) /\ ((Eq (α
  := List Value) (gC enK l) (gC enK l)) /\ ((Plain (gC enK l)) /\ ((0 = 0) /\ ((j.3 = true) /\ ((j.4 = cellI (gC enK l) (0 + Int.toNat (↑s.1 : Int) * 3 + 1)) /\ ((0 = 0) /\
  ((List.length j.2.1 = rsN z2 (List.length s.2.1) s.2.3 z1) /\ (((↑(smZ j.2.1 (List.length j.2.1)) : Int) = rsS z2 (List.length s.2.1) s.2.3 z1) /\ ((j.2.3 = rsM s.2.3 z1)
  /\ ((0 = 0) /\ ((kkR j.3 j.4 = cellI (gC enK l) (0 + Int.toNat (↑s.1 : Int) * 3 + 1)) /\ ((j.5 = cellI (gC enK l) (0 + Int.toNat (↑s.1 : Int) * 3 + 1)) /\ ((0 = 0) /\
  ((List.length j.2.1 = rsN z2 (List.length s.2.1) s.2.3 z1) /\ ((j.2.3 = rsM s.2.3 z1) /\ ((Eq (α := List Value) (gC enF (j.2.1 ++ j.2.2)) (rsC z2 (List.length s.2.1) s.2.3
  z1)) /\ ((Plain (gC enF (j.2.1 ++ j.2.2))) /\ ((Eq (α := List Value) (gC enF (j.2.1 ++ j.2.2)) (rsC z2 (List.length s.2.1) s.2.3 z1)) /\ ((Plain (gC enF (j.2.1 ++ j.2.2)))
  /\ True)))))))))))))))))))))))))))))))))))))))) (br z18 (z8 /\ (z8 /\ (z8 /\ (z4 /\ (z4 /\ (z4 /\ (z4 /\ (z4 /\ (z4 /\ (br z10 False (z5 /\ (br z9 False (br (rsM s.2.3 z1
  != rsM s.2.3 z1) False (∃ j : SPp, ((Inv j) /\ ((m j < m s) /\ ((0 = 0) /\ ((List.length l = List.length l) /\ ((0 = 0) /\ ((0 = 0) /\ (((↑j.1 : Int) = IntKind.wrap
  IntKind.i64 ((↑s.1 : Int) + (1 : Int))) /\ ((Eq (α := List Value) (gC enK l) (gC enK l)) /\ ((Plain (gC enK l)) /\ ((0 = 0) /\ ((j.3 = true) /\ ((j.4 = cellI (gC enK l) (0
  + Int.toNat (↑s.1 : Int) * 3 + 1)) /\ ((0 = 0) /\ ((List.length j.2.1 = rsN z2 (List.length s.2.1) s.2.3 z1) /\ (((↑(smZ j.2.1 (List.length j.2.1)) : Int) = rsS z2
  (List.length s.2.1) s.2.3 z1) /\ ((j.2.3 = rsM s.2.3 z1) /\ ((0 = 0) /\ ((kkR j.3 j.4 = cellI (gC enK l) (0 + Int.toNat (↑s.1 : Int) * 3 + 1)) /\ ((j.5 = cellI (gC enK l)
  (0 + Int.toNat (↑s.1 : Int) * 3 + 1)) /\ ((0 = 0) /\ ((List.length j.2.1 = rsN z2 (List.length s.2.1) s.2.3 z1) /\ ((j.2.3 = rsM s.2.3 z1) /\ ((Eq (α := List Value) (gC
  enF (j.2.1 ++ j.2.2)) (rsC z2 (List.length s.2.1) s.2.3 z1)) /\ ((Plain (gC enF (j.2.1 ++ j.2.2))) /\ ((Eq (α := List Value) (gC enF (j.2.1 ++ j.2.2)) (rsC z2 (List.length
  s.2.1) s.2.3 z1)) /\ ((Plain (gC enF (j.2.1 ++ j.2.2))) /\ True)))))))))))))))))))))))))))))))))))))))) (z8 /\ (z8 /\ (z8 /\ (z4 /\ (z4 /\ (z4 /\ (z4 /\ (z4 /\ (z4 /\ (br
  z10 False (z5 /\ (br z9 False (br (rsM s.2.3 z1 != rsM s.2.3 z1) False (∃ j : SPp, ((Inv j) /\ ((m j < m s) /\ ((0 = 0) /\ ((List.length l = List.length l) /\ ((0 = 0) /\
  ((0 = 0) /\ (((↑j.1 : Int) = IntKind.wrap IntKind.i64 ((↑s.1 : Int) + (1 : Int))) /\ ((Eq (α := List Value) (gC enK l) (gC enK l)) /\ ((Plain (gC enK l)) /\ ((0 = 0) /\
  ((j.3 = true) /\ ((j.4 = cellI (gC enK l) (0 + Int.toNat (↑s.1 : Int) * 3 + 1)) /\ ((0 = 0) /\ ((List.length j.2.1 = rsN z2 (List.length s.2.1) s.2.3 z1) /\ (((↑(smZ j.2.1
  (List.length j.2.1)) : Int) = rsS z2 (List.length s.2.1) s.2.3 z1) /\ ((j.2.3 = rsM s.2.3 z1) /\ ((0 = 0) /\ ((kkR j.3 j.4 = kkR s.3 s.4) /\ ((j.5 = cellI (gC enK l) (0 +
  Int.toNat (↑s.1 : Int) * 3 + 1)) /\ ((0 = 0) /\ ((List.length j.2.1 = rsN z2 (List.length s.2.1) s.2.3 z1) /\ ((j.2.3 = rsM s.2.3 z1) /\ ((Eq (α := List Value) (gC enF
  (j.2.1 ++ j.2.2)) (rsC z2 (List.length s.2.1) s.2.3 z1)) /\ ((Plain (gC enF (j.2.1 ++ j.2.2))) /\ ((Eq (α := List Value) (gC enF (j.2.1 ++ j.2.2)) (rsC z2 (List.length
  s.2.1) s.2.3 z1)) /\ ((Plain (gC enF (j.2.1 ++ j.2.2))) /\ True)))))))))))))))))))))))))))))))))))))))))))) (z12 /\ (br (rsZ z1 != (0 : Int)) (z8 /\ (z8 /\ (z8 /\ (br ((0
  : Int) != rsZ z1) False (z4 /\ (z4 /\ (z4 /\ (z4 /\ (z4 /\ (z4 /\ (br z10 False (z5 /\ (br z9 False (br (rsM s.2.3 z1 != rsM s.2.3 z1) False (∃ j : SPp, ((Inv j) /\ ((m j
  < m s) /\ ((0 = 0) /\ ((List.length l = List.length l) /\ ((0 = 0) /\ ((0 = 0) /\ (((↑j.1 : Int) = IntKind.wrap IntKind.i64 ((↑s.1 : Int) + (1 : Int))) /\ ((Eq (α := List
  Value) (gC enK l) (gC enK l)) /\ ((Plain (gC enK l)) /\ ((0 = 0) /\ ((j.3 = true) /\ ((j.4 = s.4) /\ ((0 = 0) /\ ((List.length j.2.1 = rsN z2 (List.length s.2.1) s.2.3 z1)
  /\ (((↑(smZ j.2.1 (List.length j.2.1)) : Int) = rsS z2 (List.length s.2.1) s.2.3 z1) /\ ((j.2.3 = rsM s.2.3 z1) /\ ((0 = 0) /\ ((kkR j.3 j.4 = kkR s.3 s.4) /\ ((j.5 = s.5)
  /\ ((0 = 0) /\ ((List.length j.2.1 = rsN z2 (List.length s.2.1) s.2.3 z1) /\ ((j.2.3 = rsM s.2.3 z1) /\ ((Eq (α := List Value) (gC enF (j.2.1 ++ j.2.2)) (rsC z2
  (List.length s.2.1) s.2.3 z1)) /\ ((Plain (gC enF (j.2.1 ++ j.2.2))) /\ ((Eq (α := List Value) (gC enF (j.2.1 ++ j.2.2)) (rsC z2 (List.length s.2.1) s.2.3 z1)) /\ ((Plain
  (gC enF (j.2.1 ++ j.2.2))) /\ True))))))))))))))))))))))))))))))))))))))))) (br (decide (kkR s.3 s.4 < (0 : Int))) (z8 /\ (z8 /\ (z8 /\ (z4 /\ (z4 /\ (z4 /\ (z4 /\ (z4 /\
  (z4 /\ (br z10 False (z5 /\ (br z9 False (br (rsM s.2.3 z1 != rsM s.2.3 z1) False (∃ j : SPp, ((Inv j) /\ ((m j < m s) /\ ((0 = 0) /\ ((List.length l = List.length l) /\
  ((0 = 0) /\ ((0 = 0) /\ (((↑j.1 : Int) = IntKind.wrap IntKind.i64 ((↑s.1 : Int) + (1 : Int))) /\ ((Eq (α := List Value) (gC enK l) (gC enK l)) /\ ((Plain (gC enK l)) /\
  ((0 = 0) /\ ((j.3 = true) /\ ((j.4 = s.4) /\ ((0 = 0) /\ ((List.length j.2.1 = rsN z2 (List.length s.2.1) s.2.3 z1) /\ (((↑(smZ j.2.1 (List.length j.2.1)) : Int) = rsS z2
  (List.length s.2.1) s.2.3 z1) /\ ((j.2.3 = rsM s.2.3 z1) /\ ((0 = 0) /\ ((kkR j.3 j.4 = cellI (gC enK l) (0 + Int.toNat (↑s.1 : Int) * 3 + 1)) /\ ((j.5 = cellI (gC enK l)
  (0 + Int.toNat (↑s.1 : Int) * 3 + 1)) /\ ((0 = 0) /\ ((List.length j.2.1 = rsN z2 (List.length s.2.1) s.2.3 z1) /\ ((j.2.3 = rsM s.2.3 z1) /\ ((Eq (α := List Value) (gC
  enF (j.2.1 ++ j.2.2)) (rsC z2 (List.length s.2.1) s.2.3 z1)) /\ ((Plain (gC enF (j.2.1 ++ j.2.2))) /\ ((Eq (α := List Value) (gC enF (j.2.1 ++ j.2.2)) (rsC z2 (List.length
  s.2.1) s.2.3 z1)) /\ ((Plain (gC enF (j.2.1 ++ j.2.2))) /\ True)))))))))))))))))))))))))))))))))))))))) (br z18 (z8 /\ (z8 /\ (z8 /\ (z4 /\ (z4 /\ (z4 /\ (z4 /\ (z4 /\ (z4
  /\ (br z10 False (z5 /\ (br z9 False (br (rsM s.2.3 z1 != rsM s.2.3 z1) False (∃ j : SPp, ((Inv j) /\ ((m j < m s) /\ ((0 = 0) /\ ((List.length l = List.length l) /\ ((0 =
  0) /\ ((0 = 0) /\ (((↑j.1 : Int) = IntKind.wrap IntKind.i64 ((↑s.1 : Int) + (1 : Int))) /\ ((Eq (α := List Value) (gC enK l) (gC enK l)) /\ ((Plain (gC enK l)) /\ ((0 = 0)
  /\ ((j.3 = true) /\ ((j.4 = s.4) /\ ((0 = 0) /\ ((List.length j.2.1 = rsN z2 (List.length s.2.1) s.2.3 z1) /\ (((↑(smZ j.2.1 (List.length j.2.1)) : Int) = rsS z2
  (List.length s.2.1) s.2.3 z1) /\ ((j.2.3 = rsM s.2.3 z1) /\ ((0 = 0) /\ ((kkR j.3 j.4 = cellI (gC enK l) (0 + Int.toNat (↑s.1 : Int) * 3 + 1)) /\ ((j.5 = cellI (gC enK l)
  (0 + Int.toNat (↑s.1 : Int) * 3 + 1)) /\ ((0 = 0) /\ ((List.length j.2.1 = rsN z2 (List.length s.2.1) s.2.3 z1) /\ ((j.2.3 = rsM s.2.3 z1) /\ ((Eq (α := List Value) (gC
  enF (j.2.1 ++ j.2.2)) (rsC z2 (List.length s.2.1) s.2.3 z1)) /\ ((Plain (gC enF (j.2.1 ++ j.2.2))) /\ ((Eq (α := List Value) (gC enF (j.2.1 ++ j.2.2)) (rsC z2 (List.length
  s.2.1) s.2.3 z1)) /\ ((Plain (gC enF (j.2.1 ++ j.2.2))) /\ True)))))))))))))))))))))))))))))))))))))))) (z8 /\ (z8 /\ (z8 /\ (z4 /\ (z4 /\ (z4 /\ (z4 /\ (z4 /\ (z4 /\ (br
  z10 False (z5 /\ (br z9 False (br (rsM s.2.3 z1 != rsM s.2.3 z1) False (∃ j : SPp, ((Inv j) /\ ((m j < m s) /\ ((0 = 0) /\ ((List.length l = List.length l) /\ ((0 = 0) /\
  ((0 = 0) /\ (((↑j.1 : Int) = IntKind.wrap IntKind.i64 ((↑s.1 : Int) + (1 : Int))) /\ ((Eq (α := List Value) (gC enK l) (gC enK l)) /\ ((Plain (gC enK l)) /\ ((0 = 0) /\
  ((j.3 = true) /\ ((j.4 = s.4) /\ ((0 = 0) /\ ((List.length j.2.1 = rsN z2 (List.length s.2.1) s.2.3 z1) /\ (((↑(smZ j.2.1 (List.length j.2.1)) : Int) = rsS z2 (List.length
  s.2.1) s.2.3 z1) /\ ((j.2.3 = rsM s.2.3 z1) /\ ((0 = 0) /\ ((kkR j.3 j.4 = kkR s.3 s.4) /\ ((j.5 = cellI (gC enK l) (0 + Int.toNat (↑s.1 : Int) * 3 + 1)) /\ ((0 = 0) /\
  ((List.length j.2.1 = rsN z2 (List.length s.2.1) s.2.3 z1) /\ ((j.2.3 = rsM s.2.3 z1) /\ ((Eq (α := List Value) (gC enF (j.2.1 ++ j.2.2)) (rsC z2 (List.length s.2.1) s.2.3
  z1)) /\ ((Plain (gC enF (j.2.1 ++ j.2.2))) /\ ((Eq (α := List Value) (gC enF (j.2.1 ++ j.2.2)) (rsC z2 (List.length s.2.1) s.2.3 z1)) /\ ((Plain (gC enF (j.2.1 ++ j.2.2)))
  /\ True)))))))))))))))))))))))))))))))))))))))))))))))) (((z19 /\ ((True /\ True) /\ (True /\ IsWo z3 z11)))) /\ (br (ltR z3) (((z16 /\ ((True /\ True) /\ ((Plain (pdW z3
  (Value.int IntKind.i64 (8 : Int))) /\ True) /\ (IsWl z3 z11 /\ (cellN (gC enK l) (0 + Int.toNat (↑s.1 : Int) * 3 + 1 + 1) <= 16777136 /\ z27)))))) /\ (br z20 ((((True /\
  ((0 + (Int.toNat (Int.ofNat z11) - 0) * 3 <= List.length (pdW z3 (Value.int IntKind.i64 (8 : Int))) /\ Plain (List.take ((Int.toNat (Int.ofNat z11) - 0) * 3) z22)) /\
  True)) /\ (((True /\ (True /\ (True /\ True))) /\ (True /\ z26)) /\ ((Plain z30 /\ (Plain z31 /\ True)) /\ (IsW z6 (Int.toNat (Int.ofNat z11) - 0) /\ (IsTk z2 (List.length
  s.2.1) (↑(smZ s.2.1 (List.length s.2.1)) : Int) s.2.3 /\ ((0 : Int) <= s.4 /\ s.4 <= (65536 : Int)))))))) /\ ((((True /\ z19) /\ (((True /\ (True /\ (True /\ True))) /\
  (True /\ z28)) /\ ((Plain z14 /\ (Plain z25 /\ True)) /\ (IsW z3 z11 /\ (IsTk z2 (List.length s.2.1) (szR z2 (List.length s.2.1)) s.2.3 /\ (kkR s.3 s.4 <= (65536 : Int) /\
  (((0 : Int) <= s.5 /\ s.5 <= (65536 : Int)) /\ NowW (kkR s.3 s.4) s.5 s.2.3)))))))) /\ (((((0 + bkN z6 z2 (List.length s.2.1) s.2.3 s.3 s.4 * 1 <= List.length z31 /\ Plain
  z17) /\ ((0 + bkN z3 z2 (List.length s.2.1) s.2.3 (decide ((0 : Int) <= kkR s.3 s.4)) (kkR s.3 s.4) * 1 <= List.length z25 /\ Plain z15) /\ True)) /\ ((True /\ (True /\
  True)) /\ (True /\ (IsB (Row.mk z17 true (Ob.cells true)) (bkN z6 z2 (List.length s.2.1) s.2.3 s.3 s.4) /\ (IsB (Row.mk z15 true (Ob.cells true)) (bkN z3 z2 (List.length
  s.2.1) s.2.3 (decide ((0 : Int) <= kkR s.3 s.4)) (kkR s.3 s.4)) /\ bkN z6 z2 (List.length s.2.1) s.2.3 s.3 s.4 <= 9223372036854775807)))))) /\ (br (!decide (dB (Row.mk z17
  true (Ob.cells true)) = dB (Row.mk z15 true (Ob.cells true)))) (z7 /\ (br z20 (z23 /\ (z7 /\ (z7 /\ False))) False)) (((((0 + z13 * 3 <= List.length (pdW z3 (Value.int
  IntKind.i64 (8 : Int))) /\ Plain (List.take (z13 * 3) z22)) /\ z16) /\ ((True /\ (True /\ True)) /\ (True /\ (IsWl z29 z13 /\ (IsWl z3 z11 /\ (cellN (gC enK l) (0 +
  Int.toNat (↑s.1 : Int) * 3 + 1 + 1) + 80 <= 9223372036854775807 /\ (cellN (gC enK l) (0 + Int.toNat (↑s.1 : Int) * 3 + 1 + 1) <= 9223372036854775000 /\ z27)))))))) /\ (z7
  /\ (br z20 (z23 /\ (z7 /\ (z7 /\ (z7 /\ (br (!inW z29 z3 (8 : Int)) False (z4 /\ (z4 /\ (z4 /\ (z4 /\ (z4 /\ (z4 /\ (br (Int.ofNat (buN z6 z2 (List.length s.2.1) s.2.3 s.3
  s.4) != Int.ofNat z21) False ((((True /\ True) /\ (((True /\ (True /\ True)) /\ (Plain z14 /\ True)) /\ ((Plain z14 /\ True) /\ IsTr (Row.mk z14 false (Ob.cells true))
  z21)))) /\ (br (buS z6 z2 (List.length s.2.1) s.2.3 s.3 s.4 != szR (Row.mk z14 false (Ob.cells true)) z21) False (br (s.2.3 != s.2.3) False (∃ j : SPp, ((Inv j) /\ ((m j <
  m s) /\ ((0 = 0) /\ ((List.length l = List.length l) /\ ((0 = 0) /\ ((0 = 0) /\ (((↑j.1 : Int) = IntKind.wrap IntKind.i64 ((↑s.1 : Int) + (1 : Int))) /\ ((Eq (α := List
  Value) (gC enK l) (gC enK l)) /\ ((Plain (gC enK l)) /\ ((0 = 0) /\ ((j.3 = false) /\ ((j.4 = s.4) /\ ((0 = 0) /\ ((List.length j.2.1 = buN z6 z2 (List.length s.2.1) s.2.3
  s.3 s.4) /\ (((↑(smZ j.2.1 (List.length j.2.1)) : Int) = buS z6 z2 (List.length s.2.1) s.2.3 s.3 s.4) /\ ((j.2.3 = s.2.3) /\ ((0 = 0) /\ ((kkR j.3 j.4 = rbK (kkR s.3 s.4))
  /\ ((j.5 = s.5) /\ ((0 = 0) /\ ((List.length j.2.1 = buN z3 z2 (List.length s.2.1) s.2.3 (decide ((0 : Int) <= kkR s.3 s.4)) (kkR s.3 s.4)) /\ ((j.2.3 = s.2.3) /\ ((Eq (α
  := List Value) (gC enF (j.2.1 ++ j.2.2)) z30) /\ ((Plain (gC enF (j.2.1 ++ j.2.2))) /\ ((Eq (α := List Value) (gC enF (j.2.1 ++ j.2.2)) z14) /\ ((Plain (gC enF (j.2.1 ++
  j.2.2))) /\ True)))))))))))))))))))))))))))))))))))))))))) False))))))) False)) (z4 /\ (z4 /\ (z4 /\ (z4 /\ (z4 /\ (z4 /\ (br (Int.ofNat (List.length s.2.1) != Int.ofNat
  (List.length s.2.1)) False ((((True /\ True) /\ (z28 /\ ((Plain (gC enF (s.2.1 ++ s.2.2)) /\ True) /\ IsTr z2 (List.length s.2.1))))) /\ (br ((↑(smZ s.2.1 (List.length
  s.2.1)) : Int) != szR z2 (List.length s.2.1)) False (br (s.2.3 != s.2.3) False (∃ j : SPp, ((Inv j) /\ ((m j < m s) /\ ((0 = 0) /\ ((List.length l = List.length l) /\ ((0
  = 0) /\ ((0 = 0) /\ (((↑j.1 : Int) = IntKind.wrap IntKind.i64 ((↑s.1 : Int) + (1 : Int))) /\ ((Eq (α := List Value) (gC enK l) (gC enK l)) /\ ((Plain (gC enK l)) /\ ((0 =
  0) /\ ((j.3 = s.3) /\ ((j.4 = s.4) /\ ((0 = 0) /\ ((List.length j.2.1 = List.length s.2.1) /\ (((↑(smZ j.2.1 (List.length j.2.1)) : Int) = (↑(smZ s.2.1 (List.length
  s.2.1)) : Int)) /\ ((j.2.3 = s.2.3) /\ ((0 = 0) /\ ((kkR j.3 j.4 = kkR s.3 s.4) /\ ((j.5 = s.5) /\ ((0 = 0) /\ ((List.length j.2.1 = List.length s.2.1) /\ ((j.2.3 = s.2.3)
  /\ ((Eq (α := List Value) (gC enF (j.2.1 ++ j.2.2)) (gC enF (s.2.1 ++ s.2.2))) /\ ((Plain (gC enF (j.2.1 ++ j.2.2))) /\ ((Eq (α := List Value) (gC enF (j.2.1 ++ j.2.2))
  (gC enF (s.2.1 ++ s.2.2))) /\ ((Plain (gC enF (j.2.1 ++ j.2.2))) /\ True))))))))))))))))))))))))))))))))))))))))))) False) (∃ y : Unit, z24)) (∃ y : Unit, z24)) := by kernel_rfl
theorem Pp_vc (most : Int) (l : List Ak) : mcall EtPp mPp 60 4 [.int .i64 most, .slice (some ⟨0, 0, none⟩) l.length 3] ⟨mkR (nums 0 [gRo enK l]), 1⟩ (retIs 1 (.bool true) [gRo enK l]) =
  let z1 := ((Eq (α := List Value) (gC enK l) (gC enK l)) /\ ((Plain (gC enK l)) /\ True)); let z2 := (br (decide (most < (0 : Int))) (((True /\ (True /\ (True /\ True))))
  /\ ((true = true) /\ z1)) (br (decide (most > (65536 : Int))) (((True /\ (True /\ (True /\ True)))) /\ ((true = true) /\ z1)) ((true = false) /\ z1))); (br (decide (most <
  (0 : Int))) z2 (br (decide (most > (65536 : Int))) z2 (br (decide (most < (0 : Int))) ((true = false) /\ z1) (br (decide (most > (65536 : Int))) ((true = false) /\ z1) (∃
  g : GPp, (((∀ (a : Ak), a ∈ GPp.l g → AkOk a) /\ (0 : Int) <= g.2 /\ g.2 <= (65536 : Int)) /\ ((0 = 0) /\ ((List.length g.1 = List.length l) /\ ((0 = 0) /\ ((0 = 0) /\
  (((↑0 : Int) = (0 : Int)) /\ ((Eq (α := List Value) (gC enK g.1) (gC enK l)) /\ ((Plain (gC enK g.1)) /\ ((0 = 0) /\ ((false = false) /\ (((0 : Int) = (0 : Int)) /\ ((0 =
  0) /\ (((↑(smZ [] 0) : Int) = (0 : Int)) /\ ((g.2 = most) /\ ((0 = 0) /\ ((kkR false (0 : Int) = (-1 : Int)) /\ (((0 : Int) = (0 : Int)) /\ ((0 = 0) /\ ((g.2 = most) /\
  ((Eq (α := List Value) ([]) ([])) /\ ((Eq (α := List Value) ([]) ([])) /\ (∀ (y : Unit), ((True) → (((True /\ (True /\ (True /\ True)))) /\ ((true = true) /\ ((Eq (α :=
  List Value) (gC enK l) (gC enK g.1)) /\ ((Plain (gC enK l)) /\ True)))))))))))))))))))))))))))))))) := by kernel_rfl
theorem enW_g (l : List Wr) : gAll (gC enW l) = true := by
  unfold gAll
  rw [List.all_eq_true]
  intro v hv
  obtain ⟨f, _, h⟩ := List.mem_flatMap.1 hv
  unfold enW at h
  simp only [List.mem_cons, List.mem_nil_iff, or_false] at h
  rcases h with rfl | rfl | rfl <;> rfl
theorem pdW_mk (l : List Wr) (m : Int) (b : Bool) (o : Ob) : pdW ⟨gC enW l, b, o⟩ (.int .i64 m) = gC enW (l ++ List.replicate 80 ⟨⟨[], []⟩, m⟩) := by
  unfold pdW; rw [sealV_eq, ← gC_app, ← gC_rep]; rfl
theorem inW_mk (x y : List Wr) (m : Int) (b c : Bool) (o p : Ob) : inW ⟨gC enW x, b, o⟩ ⟨gC enW y, c, p⟩ m = sameSe x (y ++ List.replicate 80 ⟨⟨[], []⟩, m⟩) := by
  unfold inW; rw [sealV_eq]; simp only [decW_gC]
theorem isWl_mk (l : List Wr) (n : Nat) (h : n = l.length) : IsWl ⟨gC enW l, true, .cells true⟩ n := ⟨l, rfl, h⟩
theorem eRoW_ok : EntOk Try.prog eRoW := entC_ok (by
  intro a rows p v news h hp
  split at h <;> simp only [Option.some.injEq, Prod.mk.injEq, reduceCtorEq] at h
  obtain ⟨rfl, rfl, rfl⟩ := h
  obtain ⟨⟨l, rfl, rfl⟩, h1, rfl, rfl⟩ := hp
  rename_i m
  have := roomy_con l ⟨⟨[], []⟩, m⟩ h1
  unfold gRo
  rw [pdW_mk]
  exact this)
theorem eInW_ok : EntOk Try.prog eInW := entC_ok (by
  intro a rows p v news h hp
  split at h <;> simp only [Option.some.injEq, Prod.mk.injEq, reduceCtorEq] at h
  obtain ⟨rfl, rfl, rfl⟩ := h
  obtain ⟨⟨x, rfl, rfl⟩, ⟨y, rfl, rfl⟩, h1, h2, rfl, rfl⟩ := hp
  rename_i m
  have := int_con x y ⟨⟨[], []⟩, m⟩ h1 h2
  unfold gRo
  rw [inW_mk]
  simp only [List.append_nil]
  exact this)
theorem tPp_ok : ∀ x ∈ tPp, EntOk Try.prog x := all_cons eLi_ok (all_cons eRunsP_ok (all_cons eSameB_ok (all_cons eBlk_ok (all_cons eRBk_ok (all_cons eResT_ok (all_cons eResR_ok (all_cons eSzR_ok (all_cons eRoW_ok (all_cons eInW_ok (all_nil))))))))))
theorem brTt {p q : Prop} : br true p q = p := rfl
theorem brFf {p q : Prop} : br false p q = q := rfl
theorem kK (a : Ak) : (enK a).length = 3 := rfl
theorem enK_pl (l : List Ak) : Plain (gC enK l) := gC_plain (fun a v hv => by
  unfold enK at hv
  simp only [List.mem_cons, List.mem_nil_iff, or_false] at hv
  rcases hv with rfl | rfl | rfl <;> rfl) l
theorem akGet (l : List Ak) (i : Nat) (h : i < l.length) : (gC enK l)[i * 3]? = some (.int .i64 l[i].k) ∧ (gC enK l)[i * 3 + 1]? = some (.int .i64 l[i].n) ∧ (gC enK l)[i * 3 + 1 + 1]? = some (.slice (some ⟨gCode (gC enW l[i].l), 0, some 0⟩) l[i].l.length 3) ∧ cellI (gC enK l) (i * 3) = l[i].k ∧ cellI (gC enK l) (i * 3 + 1) = l[i].n ∧ cellZ (gC enK l) (i * 3 + 1 + 1) = gCode (gC enW l[i].l) ∧ cellO (gC enK l) (i * 3 + 1 + 1) = 0 ∧ cellN (gC enK l) (i * 3 + 1 + 1) = l[i].l.length := by
  have h0 := gC_get kK l i 0 h (by omega)
  have h1 := gC_get kK l i 1 h (by omega)
  have h2 := gC_get kK l i 2 h (by omega)
  have h2' : (gC enK l)[i * 3 + 1 + 1]? = some (.slice (some ⟨gCode (gC enW l[i].l), 0, some 0⟩) l[i].l.length 3) := h2
  refine ⟨h0, h1, h2', cellI_ofW h0, cellI_ofW h1, ?_, ?_, ?_⟩
  · unfold cellZ; rw [h2']
  · unfold cellO; rw [h2']
  · unfold cellN; rw [h2']
theorem z_kkR (b : Bool) (k : Int) : kkR b k = if b then k else -1 := by unfold kkR; rw [sealV_eq]
theorem kkF (k : Int) : kkR false k = -1 := by rw [z_kkR]; rfl
theorem kkT (k : Int) : kkR true k = k := by rw [z_kkR]; rfl
def InvPp (l : List Ak) (s : SPp) : Prop := s.i ≤ l.length ∧ Ok s.t ∧ (0 ≤ s.k ∧ s.k ≤ 65536) ∧ (0 ≤ s.w ∧ s.w ≤ 65536) ∧ (s.b = true → s.w = s.t.most)
theorem Pp_piece : PieceOk EtPp 1 (4, pPp, specPp) := by
  refine piece_loop tk.mixed (calls_envT tPp_ok) (lok_envT _ _) lm_none (n := 60) (by kernel_rfl) (fun g : GPp => s0Pp g.m) (fun g s => InvPp g.l s) (fun g s => g.l.length - s.i) (sl := fun g s => slPp g.l s) (rl := fun g s => rlPp g.l s) (fun g hg => ⟨Nat.zero_le _, ⟨by simp only [s0Pp, smN]; exact hg.2.1, hg.2.1, hg.2.2⟩, ⟨by simp [s0Pp], by simp [s0Pp]⟩, ⟨by simp [s0Pp], by simp [s0Pp]⟩, fun h => by simp [s0Pp] at h⟩) (fun g s hg hi => ?_)
  refine (Pp_round g.l s _ _).mpr ?_
  obtain ⟨hg, _, _⟩ := hg
  obtain ⟨i, ⟨tl, tj, tm⟩, b, k, w⟩ := s
  obtain ⟨h1, h2, ⟨h3, h4⟩, ⟨h5, h6⟩, h7⟩ := hi
  simp only at h1 h2 h3 h4 h5 h6 h7
  have one : ∀ l : List Fl, smN (l.take l.length) = smN l := fun l => by rw [List.take_length]
  have rN : ∀ l j m k, rsN ⟨gC enF (l ++ j), false, .cells true⟩ l.length m k = (rsT ⟨l, j, m⟩ k).l.length := fun l j m k => (rs_mk l j m k).1
  have rS : ∀ l j m k, rsS ⟨gC enF (l ++ j), false, .cells true⟩ l.length m k = (smN (rsT ⟨l, j, m⟩ k).l : Nat) := fun l j m k => (rs_mk l j m k).2.1
  have rC : ∀ l j m k, rsC ⟨gC enF (l ++ j), false, .cells true⟩ l.length m k = gC enF ((rsT ⟨l, j, m⟩ k).l ++ (rsT ⟨l, j, m⟩ k).j) := fun l j m k => (rs_mk l j m k).2.2
  refine br_if (fun h => ?_) (fun h => ⟨(), by simp only [ofNat_eq, toNat_cast, Nat.zero_add, Nat.add_zero, Nat.mul_one, List.drop_zero, bCells_len, bCells_drop, bCells_take, bCells_app, bCells_one, bCells_plain, List.length_replicate, List.length_append, List.length_take, List.length_drop, List.take_length, and_true, true_and, and_self, decide_true, List.length_nil, List.length_cons, Nat.sub_zero, dB_mk, dB_ro, List.take_zero, enK_pl]⟩)
  refine br_if (fun h15 => ?_) (fun h15 => ⟨(), by simp only [ofNat_eq, toNat_cast, Nat.zero_add, Nat.add_zero, Nat.mul_one, List.drop_zero, bCells_len, bCells_drop, bCells_take, bCells_app, bCells_one, bCells_plain, List.length_replicate, List.length_append, List.length_take, List.length_drop, List.take_length, and_true, true_and, and_self, decide_true, List.length_nil, List.length_cons, Nat.sub_zero, dB_mk, dB_ro, List.take_zero, enK_pl]⟩)
  have hi : i < g.l.length := by have : (i : Int) < (g.l.length : Int) := h; omega
  obtain ⟨c0, c1, c2, d0, d1, d2, d3, d4⟩ := akGet g.l i hi
  obtain ⟨⟨l0, l1⟩, lw⟩ := hg _ (List.getElem_mem hi)
  have hz : gCells (gCode (gC enW g.l[i].l)) = gC enW g.l[i].l := gCells_code (enW_g _)
  have w1 : IntKind.i64.wrap ((i : Int) + 1) = ((i + 1 : Nat) : Int) := by rw [wr64_id (by have : (i : Int) < 15 := h15; unfold I64; omega)]; omega
  have ib := isTb_mk ⟨tl, tj, tm⟩ h2
  simp only at ib
  have hM : rsM tm g.l[i].n = (rsT ⟨tl, tj, tm⟩ g.l[i].n).most := by rw [z_rsM, rsT_m]
  have sz := sz_mk tl tj false (.cells true) tl.length (Nat.le_refl _)
  rw [List.take_length] at sz
  have hlt : ltR ⟨gC enW g.l[i].l, true, .cells true⟩ = decide (wSum g.l[i].l ≤ 3000) := by rw [z_ltR]; simp only [decW_gC]
  have pm : pdW ⟨gC enW g.l[i].l, true, .cells true⟩ (.int .i64 8) = gC enW (g.l[i].l ++ List.replicate 80 ⟨⟨[], []⟩, 8⟩) := pdW_mk _ _ _ _
  have tkL : List.take (g.l[i].l.length * 3) (gC enW g.l[i].l) = gC enW g.l[i].l := wTake _
  have tk8 : List.take (g.l[i].l.length * 3) (gC enW (g.l[i].l ++ List.replicate 80 ⟨⟨[], []⟩, 8⟩)) = gC enW g.l[i].l := by rw [gC_take wK, List.take_left]
  have tk9 : List.take ((g.l[i].l.length + 80) * 3) (gC enW (g.l[i].l ++ List.replicate 80 ⟨⟨[], []⟩, 8⟩)) = gC enW (g.l[i].l ++ List.replicate 80 ⟨⟨[], []⟩, 8⟩) := List.take_of_length_le (by rw [wLen, List.length_append, List.length_replicate]; exact Nat.le_refl _)
  simp only [ofNat_eq, toNat_cast, Nat.zero_add, Nat.add_zero, Nat.mul_one, List.drop_zero, bCells_len, bCells_drop, bCells_take, bCells_app, bCells_one, bCells_plain, List.length_replicate, List.length_append, List.length_take, List.length_drop, List.take_length, and_true, true_and, and_self, decide_true, List.length_nil, List.length_cons, Nat.sub_zero, dB_mk, dB_ro, List.take_zero, z_smZ, c0, c1, c2, d0, d1, d2, d3, d4, hz, w1, hM, rN, rS, rC, sz, one, fPl, wPl, enK_pl, hlt, pm, tkL, tk8, tk9, wLen]
  have fin : ∀ (u : Tb) (b' : Bool) (k' w' q : Int), Ok u → 0 ≤ k' → k' ≤ 65536 → 0 ≤ w' → w' ≤ 65536 → (b' = true → w' = u.most) → q = kkR b' k' → ∃ j : SPp, InvPp g.l j ∧ g.l.length - j.i < g.l.length - i ∧ (↑j.i : Int) = ↑(i + 1) ∧ j.b = b' ∧ j.k = k' ∧ j.t.l.length = u.l.length ∧ (↑(smN j.t.l) : Int) = ↑(smN u.l) ∧ j.t.most = u.most ∧ kkR j.b j.k = q ∧ j.w = w' ∧ j.t.l.length = u.l.length ∧ j.t.most = u.most ∧ gC enF (j.t.l ++ j.t.j) = gC enF (u.l ++ u.j) :=
    fun u b' k' w' q o a1 a2 a3 a4 a5 a6 => ⟨⟨i + 1, u, b', k', w'⟩, ⟨by simp only; omega, o, ⟨a1, a2⟩, ⟨a3, a4⟩, a5⟩, by simp only; omega, rfl, rfl, rfl, rfl, rfl, rfl, a6.symm, rfl, rfl, rfl, rfl⟩
  have szA : ∀ u : Tb, szR ⟨gC enF (u.l ++ u.j), false, .cells true⟩ u.l.length = (smN u.l : Nat) := fun u => by
    have := sz_mk u.l u.j false (.cells true) u.l.length (Nat.le_refl _)
    rw [List.take_length] at this; exact this
  have itA : ∀ u : Tb, Ok u → IsTr ⟨gC enF (u.l ++ u.j), false, .cells true⟩ u.l.length := fun u ho => by
    obtain ⟨o1, o2, o3⟩ := ho
    have := ok_len u.l
    exact ⟨u.l, u.j, rfl, Nat.le_refl _, by omega, by omega⟩
  refine br_dec (by omega) (br_intro (fun hk => ?_) (fun hk => ?_))
  · have hO := ok_rs ⟨tl, tj, tm⟩ g.l[i].n h2
    have hsame : (g.l[i].n < 0 ∨ g.l[i].n > 65536) → rsT ⟨tl, tj, tm⟩ g.l[i].n = ⟨tl, tj, tm⟩ := fun h => if_pos h
    have hmost : ¬ (g.l[i].n < 0 ∨ g.l[i].n > 65536) → (rsT ⟨tl, tj, tm⟩ g.l[i].n).most = g.l[i].n := fun h => by rw [rsT_m, if_neg h]
    generalize rsT ⟨tl, tj, tm⟩ g.l[i].n = u at hO hsame hmost ⊢
    simp only [szA, bne_self_eq_false, brFf]
    refine ⟨ib, ?_⟩
    have it := itA u hO
    by_cases hr : g.l[i].n < 0 ∨ g.l[i].n > 65536
    · have e1 : rsZ g.l[i].n = 1 := by rw [z_rsZ]; exact if_pos hr
      have e2 : ((1 : Int) != 0) = true := rfl
      have hs := hsame hr
      simp only [e1, e2, brTt]
      exact ⟨ib, it, fin u b k w _ hO h3 h4 h5 h6 (fun h => by rw [h7 h, hs]) rfl⟩
    · have e1 : rsZ g.l[i].n = 0 := by rw [z_rsZ]; exact if_neg hr
      have hm := hmost hr
      simp only [e1, bne_self_eq_false, brFf]
      have r1 : 0 ≤ g.l[i].n := by omega
      have r2 : g.l[i].n ≤ 65536 := by omega
      cases b with
      | false =>
        simp only [kkF, Bool.not_false, brTt]
        exact ⟨ib, br_dec (by omega) ⟨it, fin u true _ _ _ hO r1 r2 r1 r2 (fun _ => hm.symm) (kkT _).symm⟩⟩
      | true =>
        simp only [kkT, Bool.not_true, brFf]
        refine br_if (fun hlt => ⟨ib, br_nd (by omega) (br_dec hlt ⟨it, fin u true _ _ _ hO r1 r2 r1 r2 (fun _ => hm.symm) (kkT _).symm⟩)⟩) (fun hlt => ⟨ib, br_nd (by omega) (br_nd hlt ⟨it, fin u true _ _ _ hO h3 h4 r1 r2 (fun _ => hm.symm) (kkT _).symm⟩)⟩)
  · have q1 : IsWo ⟨gC enW g.l[i].l, true, .cells true⟩ g.l[i].l.length := ⟨_, rfl, rfl, lw⟩
    refine ⟨⟨Nat.le_refl _, q1⟩, br_if (fun hl => ?_) (fun hl => ?_)⟩
    · have hq : kkR b k ≤ 65536 ∧ NowW (kkR b k) w tm := by
        cases b with
        | false => rw [kkF]; exact ⟨by omega, .inl (by omega)⟩
        | true => rw [kkT]; exact ⟨h4, .inr (h7 rfl)⟩
      have hs : szs tm (decide (0 ≤ kkR b k)) (kkR b k) = szs tm b k := by
        cases b with
        | false => rw [kkF]; rfl
        | true => rw [kkT, show decide (0 ≤ k) = true from decide_eq_true h3]
      have hrb : rbK (kkR b k) = kkR false k := by
        rw [z_rbK, kkF]
        cases b with
        | false => simp only [kkF]; rfl
        | true => simp only [kkT]; exact if_pos h3
      obtain ⟨e1, e2, e3, e4, e5⟩ := bk_mk g.l[i].l ⟨tl, tj, tm⟩ b k
      obtain ⟨f1, f2, f3, f4, f5⟩ := bk_mk g.l[i].l ⟨tl, tj, tm⟩ (decide (0 ≤ kkR b k)) (kkR b k)
      rw [hs] at f1 f2
      have hB := blk_len g.l[i].l ⟨tl, tj, tm⟩ h2 (by omega)
      have hO := ok_blk g.l[i].l ⟨tl, tj, tm⟩ h2
      have hm := blk_m g.l[i].l ⟨tl, tj, tm⟩
      have hsl : (szs tm b k).length ≤ 12 := by
        obtain ⟨_, o2, o3⟩ := h2
        simp only at o2 o3
        have a1 := putB_le 32 5 k.toNat (by omega)
        have a2 := putB_le 32 5 tm.toNat (by omega)
        unfold szs
        split
        · rw [List.length_append]; split
          · omega
          · simp only [List.length_nil]; omega
        · simp
      have wl := ok_wlen g.l[i].l
      simp only [e1, e2, e3, e4, e5, f1, f2, f3, f4, f5, hrb]
      have hol : (szs tm b k ++ (blk g.l[i].l ⟨tl, tj, tm⟩).1).length ≤ 9223372036854775807 := by rw [List.length_append]; omega
      generalize szs tm b k ++ (blk g.l[i].l ⟨tl, tj, tm⟩).1 = o at hol ⊢
      generalize (blk g.l[i].l ⟨tl, tj, tm⟩).2 = u at hO hm ⊢
      simp only at hm
      simp only [ofNat_eq, toNat_cast, Nat.zero_add, Nat.add_zero, Nat.mul_one, List.drop_zero, bCells_len, bCells_drop, bCells_take, bCells_app, bCells_one, bCells_plain, List.length_replicate, List.length_append, List.length_take, List.length_drop, List.take_length, and_true, true_and, and_self, decide_true, List.length_nil, List.length_cons, Nat.sub_zero, dB_mk, dB_ro, List.take_zero, szA, inW_mk, sameSe_yes rfl, bne_self_eq_false, brFf, fPl, Nat.le_refl]
      have b1 : IsB ⟨bCells o, true, .cells true⟩ o.length := isB_mk _ _ rfl
      have v1 : IsWl ⟨gC enW g.l[i].l, true, .cells true⟩ g.l[i].l.length := isWl_mk _ _ rfl
      have v2 : IsWl ⟨gC enW (g.l[i].l ++ List.replicate 80 ⟨⟨[], []⟩, 8⟩), true, .cells true⟩ (g.l[i].l.length + 80) := isWl_mk _ _ (by rw [List.length_append, List.length_replicate])
      have v3 : IsW ⟨gC enW g.l[i].l, true, .cells true⟩ g.l[i].l.length := isW_mk _ (by omega)
      have v4 : IsTk ⟨gC enF (tl ++ tj), false, .cells true⟩ tl.length ((smN tl : Nat) : Int) tm := isTk_mk ⟨tl, tj, tm⟩ h2
      have fu := fin u false k w _ hO h3 h4 h5 h6 (fun h => by cases h) rfl
      rw [hm] at fu
      exact ⟨⟨v1, by omega⟩, br_dec (by omega) ⟨⟨by omega, v3, v4, h3, h4⟩, ⟨v3, v4, hq.1, ⟨h5, h6⟩, hq.2⟩, ⟨b1, b1, hol⟩, br_nb rfl ⟨⟨v2, v1, by omega, by omega⟩, br_dec (by omega) (br_nb rfl ⟨itA u hO, fu⟩)⟩⟩⟩
    · simp only [bne_self_eq_false, brFf]
      exact ⟨itA ⟨tl, tj, tm⟩ h2, fin ⟨tl, tj, tm⟩ b k w _ h2 h3 h4 h5 h6 h7 rfl⟩
theorem gk_of {Q : Nat → Prop} {M : List (List Value)} (hL : ∀ c ∈ M, GCells Q [.p (.i .i64), .p (.i .i64), .sl 33 31 [.s, .s, .i .i64]] c) (hQ : ∀ n, Q n → n ≤ 1048576 := by intro n h; exact h) :
    ∃ a : List Ak, a.length = M.length ∧ M.flatten = gC enK a ∧ ∀ x ∈ a, AkOk x := by
  induction M with
  | nil => exact ⟨[], rfl, rfl, fun x hx => by simp at hx⟩
  | cons c M ih =>
    obtain ⟨a, h1, h2, h3⟩ := ih (fun d hd => hL d (List.mem_cons_of_mem _ hd))
    have hc := hL c (List.mem_cons_self ..)
    match c, hc with
    | [v0, v1, v2], hc =>
      obtain ⟨f0, f1, f2, _⟩ := hc
      obtain ⟨k, rfl, w0⟩ := cq_i f0
      obtain ⟨n, rfl, w1⟩ := cq_i f1
      obtain ⟨m, cells, rfl, hel, hm, hq⟩ := f2
      obtain ⟨fs, y1, y2, y3⟩ := hel.data (α := Wr) enW (fun w => Q w.f.n.length ∧ Q w.f.v.length) (fun c hc => by
        match c, hc with
        | [x, y, z], hc =>
          obtain ⟨c1, c2, c3, _⟩ := hc
          obtain ⟨s, rfl, w1, b1⟩ := cq_s c1
          obtain ⟨t, rfl, w2, b2⟩ := cq_s c2
          obtain ⟨h, rfl, w3⟩ := cq_i c3
          exact ⟨⟨⟨L s, L t⟩, h⟩, rfl, b1, b2⟩)
      have y2 : cells = gC enW fs := y2
      subst y2; subst y1
      refine ⟨⟨k, n, fs⟩ :: a, by rw [List.length_cons, List.length_cons, h1], by rw [List.flatten_cons, h2, gC_cons]; rfl, ?_⟩
      intro x hx
      rcases List.mem_cons.1 hx with rfl | hx
      · exact ⟨⟨Sy.wf64 w0, Sy.wf64 w1⟩, hQ _ hq, fun f hf => ⟨hQ _ (y3 f hf).1, hQ _ (y3 f hf).2⟩⟩
      · exact h3 x hx
theorem Pp_law (most : Int) (l : List Ak) (hm : I64 most) (hl : l.length ≤ 1048576) (h : ∀ a ∈ l, AkOk a) : Con Try.prog 4 [.int .i64 most, .slice (some ⟨0, 0, none⟩) l.length 3] [gRo enK l] (.bool true) [gRo enK l] := by
  refine con_vc (E := EtPp) tk.mixed (calls_envT tPp_ok) (lok_envT _ _) (M := mPp) (lm_one Pp_piece) (Pp_vc most l) ?_
  simp only [ofNat_eq, toNat_cast, Nat.zero_add, Nat.add_zero, Nat.mul_one, List.drop_zero, bCells_len, bCells_drop, bCells_take, bCells_app, bCells_one, bCells_plain, List.length_replicate, List.length_append, List.length_take, List.length_drop, List.take_length, and_true, true_and, and_self, decide_true, List.length_nil, List.length_cons, Nat.sub_zero, dB_mk, dB_ro, List.take_zero, z_smZ, fPl, wPl, enK_pl]
  refine br_if (fun h1 => br_dec h1 trivial) (fun h1 => br_if (fun h2 => br_nd h1 (br_dec h2 trivial)) (fun h2 => br_nd h1 (br_nd h2 ⟨⟨l, most⟩, ⟨h, by simp only; omega, by simp only; omega⟩, rfl, rfl, rfl, rfl, kkF 0, rfl, fun _ _ => rfl⟩)))
end Go.Proofs.Ytlkinjlbaeigdaa.pk
