/- UnpackPlays: any blocks, one behind the other: the rows, the errors, the table are what the document says; the blocks stay. -/
import Derived.Test.YtellbmbklfbbfaaSz9
import Derived.Test.YtellbmbklfbbfaaRows
import Derived.Test.YtellbmbklfbbfaaLupS
import Derived.Test.YtellbmbklfbbfaaLupH
import Derived.Test.YtellbmbklfbbfaaLwrs
import Derived.Test.YtellbmbklfbbfaaLbkR
import Derived.Test.YtellbmbklfbbfaaLlawUb
set_option maxRecDepth 20000
set_option linter.unusedSimpArgs false
set_option linter.unusedVariables false
namespace Go.Proofs.Ytellbmbklfbbfaa.up
open Go Go.Ev Go.Sy Go.RowKit Go.Proofs.Ytellbmbklfbbfaa.gl Go.Proofs.Ytellbmbklfbbfaa.tk Go.Proofs.Ytellbmbklfbbfaa.hf Go.Proofs.Ytellbmbklfbbfaa.s3 Go.Proofs.Ytellbmbklfbbfaa.tb Go.Proofs.Ytellbmbklfbbfaa.wr
def u8i (m : Int) : UInt8 := UInt8.ofNat m.toNat
def IsU8 (m : Int) : Prop := ∃ b : UInt8, m = b.toNat
def pad80 (l : List UInt8) (m : UInt8) : List UInt8 := l ++ List.replicate 80 m
def padC (r : Row) (m : Int) : List Value := bCells (pad80 (dB r) (u8i m))
def inI (r0 r1 : Row) (k : Int) : Bool := decide (dB r0 = pad80 (dB r1) (u8i k))
noncomputable def eRoo : EntM := entC 14 fun a r => match a, r with
  | [.slice (some ⟨0, 0, none⟩) n 1, .int .u8 m], [r0] => some (IsB r0 n ∧ IsU8 m ∧ n ≤ 16777136, slc 1 (n + 80), [⟨padC r0 m, false, .cells true⟩])
  | _, _ => none
noncomputable def eIntB : EntM := entC 17 fun a r => match a, r with
  | [.slice (some ⟨0, 0, none⟩) n 1, .slice (some ⟨1, 0, none⟩) m 1, .int .u8 k], [r0, r1] => some (IsB r0 n ∧ IsB r1 m ∧ IsU8 k ∧ n ≤ maxLen ∧ m ≤ 9223372036854775000, .bool (inI r0 r1 k), [])
  | _, _ => none
noncomputable def eRuB : EntM := (15, fun a r => match a, r with
  | [.pointer (some ⟨0, 0, none⟩), .slice (some ⟨1, 0, none⟩) m 1], [⟨[.pointer (some ⟨2, 0, none⟩), .int .i64 top, .int .i64 list, .bool bad], false, .cells false⟩, r1, ⟨[.slice (some ⟨3, 0, none⟩) k 2, .int .i64 mo], false, .cells false⟩, r3] =>
    some (IsB1 r1 m ∧ IsTo r3 k mo ∧ TopP top list mo, .tuple ⟨[.slice (some ⟨4, 0, none⟩) (ubN r1 top list bad r3 k mo) 3, .int .i64 (ubE r1 top list bad r3 k mo)]⟩, 6, [(0, rd1 top list (ubB r1 top list bad r3 k mo) 2), (1, r1), (2, rtC (ubK r1 top list bad r3 k mo) (ubM r1 top list bad r3 k mo) 5), (4, ⟨ubW r1 top list bad r3 k mo, false, .cells true⟩), (5, ⟨ubF r1 top list bad r3 k mo, false, .cells true⟩)])
  | _, _ => none)
def pUp : List Nat := [0, 1, 0, 1, 1, 1, 1, 1, 1]
noncomputable def slP (g : GU) (s : SU) : List (Nat × Value) := [(2, slc 0 g.l.length), (9, .pointer (some ⟨1, 0, none⟩)), (13, .pointer (some ⟨3, 0, none⟩)), (14, .int .i64 (s.i : Nat))]
noncomputable def rlP (g : GU) (s : SU) : List (Nat × Row) := [(0, gRo enB g.l), (1, rd1 g.m g.n s.bad 2), (2, rd4 s.t.l.length (smZ s.t.l s.t.l.length : Nat) s.t.most 5), (3, rd1 g.m g.n s.bad 4), (4, rtC s.t.l.length s.t.most 6), (5, gOwn enF (s.t.l ++ s.t.j)), (6, gOwn enF (s.t.l ++ s.t.j))]
noncomputable def wsP (g : GU) : List (Gate Unit) := [⟨.exit 0, fun _ => True, fun _ => [], fun _ => [(0, gRo enB g.l)], 7⟩, ⟨.ret, fun _ => False, fun _ => [(6, .bool false)], fun _ => [(0, gRo enB g.l)], 7⟩]
noncomputable def specP : Sy.Spec := specOf 1 7 174 (fun g : GU => (0 ≤ g.m ∧ g.m ≤ 65536) ∧ 0 ≤ g.n ∧ g.n ≤ 2147483647) (fun g => slP g ⟨0, false, ⟨[], [], g.m⟩⟩) (fun g => rlP g ⟨0, false, ⟨[], [], g.m⟩⟩) wsP
noncomputable def mP := mOf [(4, pUp, specP)]
noncomputable def eRunsP : EntM := entC 3 fun a r => match a, r with
  | [], [] => some (True, .bool true, [])
  | _, _ => none
noncomputable def tP : List EntM := [eUb, eRuB, eRoo, eIntB, eSaW, eSzR, eRunsP]
noncomputable abbrev EtP : Env := envT Try.prog tP
theorem P_round (g : GU) (s : SU) (Inv : SU → Prop) (m : SU → Nat) : mev EtP noM 60 4 (0 :: pUp) false (codeOf Try.prog 4 (0 :: pUp)) ⟨mkOv (slP g s), 174, []⟩ none ⟨mkR (rlP g s), 7⟩ (roundK 1 7 174 Inv m (slP g) (rlP g) (wsP g) s) =
  let z14 := (cellZ (gC enB g.1) (0 + Int.toNat (↑s.1 : Int) * 1)); let z1 := (Row.mk (List.take (cellN (gC enB g.1) (0 + Int.toNat (↑s.1 : Int) * 1) * 1) (List.drop (cellO
  (gC enB g.1) (0 + Int.toNat (↑s.1 : Int) * 1)) (gCells z14))) true (Ob.cells true)); let z2 := (Row.mk (List.take 400 (List.drop (cellO (gC enB g.1) (0 + Int.toNat (↑s.1 :
  Int) * 1) + 0) (gCells z14))) true (Ob.cells true)); let z3 := (Row.mk (gC enF (s.3.1 ++ s.3.2)) false (Ob.cells true)); let z13 := (cellN (gC enB g.1) (0 + Int.toNat
  (↑s.1 : Int) * 1)); let z4 := (Row.mk (List.take ((Int.toNat (Int.ofNat z13) - 0) * 1) (List.drop 0 (padC z1 (9 : Int)))) true (Ob.cells true)); let z5 := (Row.mk
  (List.take 400 (List.drop 0 (padC z2 (9 : Int)))) true (Ob.cells true)); let z25 := (Eq (α := List Value) (gC enB g.1) (gC enB g.1)); let z6 := ((False) /\ ((false =
  false) /\ (z25 /\ ((Plain (gC enB g.1)) /\ True)))); let z7 := (Value.pointer (some (Addr.mk 4 0 none)) = Value.pointer (some (Addr.mk 4 0 none))); let z8 := (Value.bool
  (ubB z2 g.2 g.3 s.2 z3 (List.length s.3.1) s.3.3) = Value.bool (ubB z2 g.2 g.3 s.2 z3 (List.length s.3.1) s.3.3)); let z9 := (Value.bool (ubB z1 g.2 g.3 s.2 z3
  (List.length s.3.1) s.3.3) = Value.bool (ubB z1 g.2 g.3 s.2 z3 (List.length s.3.1) s.3.3)); let z10 := (Value.pointer (some (Addr.mk 2 0 none)) = Value.pointer (some
  (Addr.mk 2 0 none))); let z31 := (ubK z2 g.2 g.3 s.2 z3 (List.length s.3.1) s.3.3); let z11 := (Value.slice (some (Addr.mk 13 0 none)) z31 2 = Value.slice (some (Addr.mk
  13 0 none)) z31 2); let z33 := (ubK z1 g.2 g.3 s.2 z3 (List.length s.3.1) s.3.3); let z12 := (Value.slice (some (Addr.mk 13 0 none)) z33 2 = Value.slice (some (Addr.mk 13
  0 none)) z33 2); let z15 := (cellN (gC enB g.1) (0 + Int.toNat (↑s.1 : Int) * 1) + 80); let z35 := (ubW z5 g.2 g.3 s.2 z3 (List.length s.3.1) s.3.3); let z16 := (List.take
  (ubN z5 g.2 g.3 s.2 z3 (List.length s.3.1) s.3.3 * 3) (List.drop 0 z35)); let z37 := (ubW z2 g.2 g.3 s.2 z3 (List.length s.3.1) s.3.3); let z17 := (List.take (ubN z2 g.2
  g.3 s.2 z3 (List.length s.3.1) s.3.3 * 3) (List.drop 0 z37)); let z38 := (ubW z4 g.2 g.3 s.2 z3 (List.length s.3.1) s.3.3); let z18 := (List.take (ubN z4 g.2 g.3 s.2 z3
  (List.length s.3.1) s.3.3 * 3) (List.drop 0 z38)); let z40 := (ubW z1 g.2 g.3 s.2 z3 (List.length s.3.1) s.3.3); let z19 := (List.take (ubN z1 g.2 g.3 s.2 z3 (List.length
  s.3.1) s.3.3 * 3) (List.drop 0 z40)); let z20 := (ubF z2 g.2 g.3 s.2 z3 (List.length s.3.1) s.3.3); let z21 := (ubF z1 g.2 g.3 s.2 z3 (List.length s.3.1) s.3.3); let z22
  := (cellO (gC enB g.1) (0 + Int.toNat (↑s.1 : Int) * 1) + cellN (gC enB g.1) (0 + Int.toNat (↑s.1 : Int) * 1) * 1 <= List.length (gCells z14) /\ (True /\ True)); let z23
  := (Value.int IntKind.i64 (ubM z2 g.2 g.3 s.2 z3 (List.length s.3.1) s.3.3) = Value.int IntKind.i64 (ubM z2 g.2 g.3 s.2 z3 (List.length s.3.1) s.3.3)); let z24 :=
  (Value.int IntKind.i64 (ubM z1 g.2 g.3 s.2 z3 (List.length s.3.1) s.3.3) = Value.int IntKind.i64 (ubM z1 g.2 g.3 s.2 z3 (List.length s.3.1) s.3.3)); let z26 := ((True /\
  (True /\ (True /\ (True /\ True)))) /\ (True /\ ((True /\ (True /\ (True /\ True))) /\ (Plain (gC enF (s.3.1 ++ s.3.2)) /\ True)))); let z27 := ((True /\ (True /\ (True /\
  (True /\ True)))) /\ (True /\ ((True /\ (True /\ True)) /\ (Plain (gC enF (s.3.1 ++ s.3.2)) /\ True)))); let z28 := (cellO (gC enB g.1) (0 + Int.toNat (↑s.1 : Int) * 1) +
  0 + 400 <= List.length (gCells z14) /\ (True /\ True)); let z29 := (List.take (z15 * 1) (List.drop 0 (padC z1 (9 : Int)))); let z30 := (IsTs z3 (List.length s.3.1) (↑(smZ
  s.3.1 (List.length s.3.1)) : Int) s.3.3 /\ TopP g.2 g.3 s.3.3); let z32 := (List.take 480 (List.drop 0 (padC z2 (9 : Int)))); let z34 := (IsTo z3 (List.length s.3.1) s.3.3
  /\ TopP g.2 g.3 s.3.3); let z36 := (ubF z5 g.2 g.3 s.2 z3 (List.length s.3.1) s.3.3); let z39 := (ubF z4 g.2 g.3 s.2 z3 (List.length s.3.1) s.3.3); let z41 := ((True) /\
  (z25 /\ ((Plain (gC enB g.1)) /\ True))); (br (decide ((↑s.1 : Int) < Int.ofNat (List.length g.1))) (br (decide ((↑s.1 : Int) < (12 : Int))) (br (decide ((0 : Int) <=
  (↑s.1 : Int) /\ (↑s.1 : Int) < (↑(List.length g.1) : Int))) ((Eq (α := Option Value) ((gC enB g.1)[0 + Int.toNat (↑s.1 : Int) * 1]?) (some (Value.slice (some (Addr.mk z14
  (cellO (gC enB g.1) (0 + Int.toNat (↑s.1 : Int) * 1)) (some 0))) z13 1))) /\ (br (decide (Int.ofNat z13 > (400 : Int))) (br (decide ((0 : Int) <= (↑0 : Int) /\ (↑0 : Int)
  <= (400 : Int) /\ (400 : Int) <= (↑z13 : Int))) (((z28 /\ ((True /\ True) /\ ((Plain (padC z2 (9 : Int)) /\ True) /\ (IsB z2 400 /\ (IsU8 (9 : Int) /\ Int.toNat (400 :
  Int) - Int.toNat (↑0 : Int) <= 16777136)))))) /\ ((((True /\ ((400 <= List.length (padC z2 (9 : Int)) /\ Plain (List.take 400 (List.drop 0 (padC z2 (9 : Int))))) /\ True))
  /\ (z26 /\ ((Plain z35 /\ (Plain z36 /\ True)) /\ (IsB1 z5 400 /\ z30))))) /\ ((((True /\ (cellO (gC enB g.1) (0 + Int.toNat (↑s.1 : Int) * 1) + 0 + 400 <= List.length
  (gCells z14) /\ True)) /\ (z27 /\ ((Plain z37 /\ (Plain z20 /\ True)) /\ (IsB1 z2 400 /\ z34))))) /\ (z10 /\ (z10 /\ (z10 /\ (z10 /\ (z10 /\ (z10 /\ (((((0 + ubN z5 g.2
  g.3 s.2 z3 (List.length s.3.1) s.3.3 * 3 <= List.length z35 /\ Plain z16) /\ ((0 + ubN z2 g.2 g.3 s.2 z3 (List.length s.3.1) s.3.3 * 3 <= List.length z37 /\ Plain z17) /\
  True)) /\ ((True /\ (True /\ True)) /\ (True /\ (IsSe (Row.mk z16 true (Ob.cells true)) (ubN z5 g.2 g.3 s.2 z3 (List.length s.3.1) s.3.3) /\ (IsSe (Row.mk z17 true
  (Ob.cells true)) (ubN z2 g.2 g.3 s.2 z3 (List.length s.3.1) s.3.3) /\ ubN z5 g.2 g.3 s.2 z3 (List.length s.3.1) s.3.3 <= 9223372036854775807)))))) /\ (br (!saW (Row.mk z16
  true (Ob.cells true)) (Row.mk z17 true (Ob.cells true))) (∃ y : Unit, z6) (br (ubE z5 g.2 g.3 s.2 z3 (List.length s.3.1) s.3.3 != ubE z2 g.2 g.3 s.2 z3 (List.length s.3.1)
  s.3.3) (∃ y : Unit, z6) (br (!ubB z5 g.2 g.3 s.2 z3 (List.length s.3.1) s.3.3 == ubB z2 g.2 g.3 s.2 z3 (List.length s.3.1) s.3.3) (z8 /\ (z8 /\ (∃ y : Unit, z6))) (br
  (Int.ofNat (ubK z5 g.2 g.3 s.2 z3 (List.length s.3.1) s.3.3) != Int.ofNat z31) (z8 /\ (z8 /\ (z7 /\ (z11 /\ (∃ y : Unit, z6))))) ((((True /\ True) /\ (((True /\ (True /\
  True)) /\ (Plain z20 /\ True)) /\ ((Plain z20 /\ True) /\ IsTr (Row.mk z20 false (Ob.cells true)) z31)))) /\ (br (ubS z5 g.2 g.3 s.2 z3 (List.length s.3.1) s.3.3 != szR
  (Row.mk z20 false (Ob.cells true)) z31) (z8 /\ (z8 /\ (z7 /\ (z11 /\ (z7 /\ (∃ y : Unit, z6)))))) (br (ubM z5 g.2 g.3 s.2 z3 (List.length s.3.1) s.3.3 != ubM z2 g.2 g.3
  s.2 z3 (List.length s.3.1) s.3.3) (z8 /\ (z8 /\ (z7 /\ (z11 /\ (z7 /\ (z7 /\ (z23 /\ (∃ y : Unit, z6)))))))) (((((480 <= List.length (padC z2 (9 : Int)) /\ Plain z32) /\
  z28) /\ ((True /\ (True /\ True)) /\ (True /\ (IsB (Row.mk z32 true (Ob.cells true)) 480 /\ (IsB z2 400 /\ (IsU8 (9 : Int) /\ (Int.toNat (400 : Int) - Int.toNat (↑0 : Int)
  + 80 <= maxLen /\ Int.toNat (400 : Int) - Int.toNat (↑0 : Int) <= 9223372036854775000)))))))) /\ (z8 /\ (z8 /\ (z7 /\ (z11 /\ (z7 /\ (z7 /\ (z23 /\ (br (!inI (Row.mk z32
  true (Ob.cells true)) z2 (9 : Int)) (∃ y : Unit, z6) (∃ j : SU, ((Inv j) /\ ((m j < m s) /\ ((0 = 0) /\ ((List.length g.1 = List.length g.1) /\ ((0 = 0) /\ ((0 = 0) /\
  (((↑j.1 : Int) = IntKind.wrap IntKind.i64 ((↑s.1 : Int) + (1 : Int))) /\ (z25 /\ ((Plain (gC enB g.1)) /\ ((0 = 0) /\ ((g.2 = g.2) /\ ((g.3 = g.3) /\ ((j.2 = ubB z5 g.2
  g.3 s.2 z3 (List.length s.3.1) s.3.3) /\ ((0 = 0) /\ ((List.length j.3.1 = ubK z5 g.2 g.3 s.2 z3 (List.length s.3.1) s.3.3) /\ (((↑(smZ j.3.1 (List.length j.3.1)) : Int) =
  ubS z5 g.2 g.3 s.2 z3 (List.length s.3.1) s.3.3) /\ ((j.3.3 = ubM z5 g.2 g.3 s.2 z3 (List.length s.3.1) s.3.3) /\ ((0 = 0) /\ ((g.2 = g.2) /\ ((g.3 = g.3) /\ ((j.2 = ubB
  z2 g.2 g.3 s.2 z3 (List.length s.3.1) s.3.3) /\ ((0 = 0) /\ ((List.length j.3.1 = ubK z2 g.2 g.3 s.2 z3 (List.length s.3.1) s.3.3) /\ ((j.3.3 = ubM z2 g.2 g.3 s.2 z3
  (List.length s.3.1) s.3.3) /\ ((Eq (α := List Value) (gC enF (j.3.1 ++ j.3.2)) z36) /\ ((Plain (gC enF (j.3.1 ++ j.3.2))) /\ ((Eq (α := List Value) (gC enF (j.3.1 ++
  j.3.2)) z20) /\ ((Plain (gC enF (j.3.1 ++ j.3.2))) /\ True))))))))))))))))))))))))))))))))))))))))))))))))))))))) False) (((z22 /\ ((True /\ True) /\ ((Plain (padC z1 (9 :
  Int)) /\ True) /\ (IsB z1 z13 /\ (IsU8 (9 : Int) /\ cellN (gC enB g.1) (0 + Int.toNat (↑s.1 : Int) * 1) <= 16777136)))))) /\ (br (decide ((0 : Int) <= (↑0 : Int) /\ (0 :
  Int) <= Int.ofNat z13 /\ Int.ofNat z13 <= (↑z15 : Int))) ((((True /\ ((0 + (Int.toNat (Int.ofNat z13) - 0) * 1 <= List.length (padC z1 (9 : Int)) /\ Plain (List.take
  ((Int.toNat (Int.ofNat z13) - 0) * 1) (List.drop 0 (padC z1 (9 : Int))))) /\ True)) /\ (z26 /\ ((Plain z38 /\ (Plain z39 /\ True)) /\ (IsB1 z4 (Int.toNat (Int.ofNat z13) -
  0) /\ z30))))) /\ ((((True /\ (cellO (gC enB g.1) (0 + Int.toNat (↑s.1 : Int) * 1) + cellN (gC enB g.1) (0 + Int.toNat (↑s.1 : Int) * 1) * 1 <= List.length (gCells z14) /\
  True)) /\ (z27 /\ ((Plain z40 /\ (Plain z21 /\ True)) /\ (IsB1 z1 z13 /\ z34))))) /\ (z10 /\ (z10 /\ (z10 /\ (z10 /\ (z10 /\ (z10 /\ (((((0 + ubN z4 g.2 g.3 s.2 z3
  (List.length s.3.1) s.3.3 * 3 <= List.length z38 /\ Plain z18) /\ ((0 + ubN z1 g.2 g.3 s.2 z3 (List.length s.3.1) s.3.3 * 3 <= List.length z40 /\ Plain z19) /\ True)) /\
  ((True /\ (True /\ True)) /\ (True /\ (IsSe (Row.mk z18 true (Ob.cells true)) (ubN z4 g.2 g.3 s.2 z3 (List.length s.3.1) s.3.3) /\ (IsSe (Row.mk z19 true (Ob.cells true))
  (ubN z1 g.2 g.3 s.2 z3 (List.length s.3.1) s.3.3) /\ ubN z4 g.2 g.3 s.2 z3 (List.length s.3.1) s.3.3 <= 9223372036854775807)))))) /\ (br (!saW (Row.mk z18 true (Ob.cells
  true)) (Row.mk z19 true (Ob.cells true))) (∃ y : Unit, z6) (br (ubE z4 g.2 g.3 s.2 z3 (List.length s.3.1) s.3.3 != ubE z1 g.2 g.3 s.2 z3 (List.length s.3.1) s.3.3) (∃ y :
  Unit, z6) (br (!ubB z4 g.2 g.3 s.2 z3 (List.length s.3.1) s.3.3 == ubB z1 g.2 g.3 s.2 z3 (List.length s.3.1) s.3.3) (z9 /\ (z9 /\ (∃ y : Unit, z6))) (br (Int.ofNat (ubK z4
  g.2 g.3 s.2 z3 (List.length s.3.1) s.3.3) != Int.ofNat z33) (z9 /\ (z9 /\ (z7 /\ (z12 /\ (∃ y : Unit, z6))))) ((((True /\ True) /\ (((True /\ (True /\ True)) /\ (Plain z21
  /\ True)) /\ ((Plain z21 /\ True) /\ IsTr (Row.mk z21 false (Ob.cells true)) z33)))) /\ (br (ubS z4 g.2 g.3 s.2 z3 (List.length s.3.1) s.3.3 != szR (Row.mk z21 false
  (Ob.cells true)) z33) (z9 /\ (z9 /\ (z7 /\ (z12 /\ (z7 /\ (∃ y : Unit, z6)))))) (br (ubM z4 g.2 g.3 s.2 z3 (List.length s.3.1) s.3.3 != ubM z1 g.2 g.3 s.2 z3 (List.length
  s.3.1) s.3.3) (z9 /\ (z9 /\ (z7 /\ (z12 /\ (z7 /\ (z7 /\ (z24 /\ (∃ y : Unit, z6)))))))) (((((0 + z15 * 1 <= List.length (padC z1 (9 : Int)) /\ Plain z29) /\ z22) /\
  ((True /\ (True /\ True)) /\ (True /\ (IsB (Row.mk z29 true (Ob.cells true)) z15 /\ (IsB z1 z13 /\ (IsU8 (9 : Int) /\ (cellN (gC enB g.1) (0 + Int.toNat (↑s.1 : Int) * 1)
  + 80 <= 9223372036854775807 /\ cellN (gC enB g.1) (0 + Int.toNat (↑s.1 : Int) * 1) <= 9223372036854775000)))))))) /\ (z9 /\ (z9 /\ (z7 /\ (z12 /\ (z7 /\ (z7 /\ (z24 /\ (br
  (!inI (Row.mk z29 true (Ob.cells true)) z1 (9 : Int)) (∃ y : Unit, z6) (∃ j : SU, ((Inv j) /\ ((m j < m s) /\ ((0 = 0) /\ ((List.length g.1 = List.length g.1) /\ ((0 = 0)
  /\ ((0 = 0) /\ (((↑j.1 : Int) = IntKind.wrap IntKind.i64 ((↑s.1 : Int) + (1 : Int))) /\ (z25 /\ ((Plain (gC enB g.1)) /\ ((0 = 0) /\ ((g.2 = g.2) /\ ((g.3 = g.3) /\ ((j.2
  = ubB z4 g.2 g.3 s.2 z3 (List.length s.3.1) s.3.3) /\ ((0 = 0) /\ ((List.length j.3.1 = ubK z4 g.2 g.3 s.2 z3 (List.length s.3.1) s.3.3) /\ (((↑(smZ j.3.1 (List.length
  j.3.1)) : Int) = ubS z4 g.2 g.3 s.2 z3 (List.length s.3.1) s.3.3) /\ ((j.3.3 = ubM z4 g.2 g.3 s.2 z3 (List.length s.3.1) s.3.3) /\ ((0 = 0) /\ ((g.2 = g.2) /\ ((g.3 = g.3)
  /\ ((j.2 = ubB z1 g.2 g.3 s.2 z3 (List.length s.3.1) s.3.3) /\ ((0 = 0) /\ ((List.length j.3.1 = ubK z1 g.2 g.3 s.2 z3 (List.length s.3.1) s.3.3) /\ ((j.3.3 = ubM z1 g.2
  g.3 s.2 z3 (List.length s.3.1) s.3.3) /\ ((Eq (α := List Value) (gC enF (j.3.1 ++ j.3.2)) z39) /\ ((Plain (gC enF (j.3.1 ++ j.3.2))) /\ ((Eq (α := List Value) (gC enF
  (j.3.1 ++ j.3.2)) z21) /\ ((Plain (gC enF (j.3.1 ++ j.3.2))) /\ True)))))))))))))))))))))))))))))))))))))))))))))))))))))) False)))) False) (∃ y : Unit, z41)) (∃ y : Unit,
  z41)) := by kernel_rfl
theorem P_vc (top list : Int) (l : List (List UInt8)) : mcall EtP mP 60 4 [.int .i64 top, .int .i64 list, slc 0 l.length] ⟨mkR (nums 0 [gRo enB l]), 1⟩ (retIs 1 (.bool true) [gRo enB l]) =
  let z1 := (br (decide (top < (0 : Int))) (((True /\ (True /\ (True /\ True)))) /\ ((true = true) /\ ((Eq (α := List Value) (gC enB l) (gC enB l)) /\ ((Plain (gC enB l)) /\
  True)))) (br (decide (top > (65536 : Int))) (((True /\ (True /\ (True /\ True)))) /\ ((true = true) /\ ((Eq (α := List Value) (gC enB l) (gC enB l)) /\ ((Plain (gC enB l))
  /\ True)))) (br (decide (list < (0 : Int))) (((True /\ (True /\ (True /\ True)))) /\ ((true = true) /\ ((Eq (α := List Value) (gC enB l) (gC enB l)) /\ ((Plain (gC enB l))
  /\ True)))) (br (decide (list > (2147483647 : Int))) (((True /\ (True /\ (True /\ True)))) /\ ((true = true) /\ ((Eq (α := List Value) (gC enB l) (gC enB l)) /\ ((Plain
  (gC enB l)) /\ True)))) ((true = false) /\ ((Eq (α := List Value) (gC enB l) (gC enB l)) /\ ((Plain (gC enB l)) /\ True))))))); let z2 := (br (decide (top < (0 : Int)))
  ((true = false) /\ ((Eq (α := List Value) (gC enB l) (gC enB l)) /\ ((Plain (gC enB l)) /\ True))) (br (decide (top > (65536 : Int))) ((true = false) /\ ((Eq (α := List
  Value) (gC enB l) (gC enB l)) /\ ((Plain (gC enB l)) /\ True))) ((true = false) /\ ((Eq (α := List Value) (gC enB l) (gC enB l)) /\ ((Plain (gC enB l)) /\ True))))); (br
  (decide (top < (0 : Int))) z1 (br (decide (top > (65536 : Int))) z1 (br (decide (list < (0 : Int))) z1 (br (decide (list > (2147483647 : Int))) z1 (br (decide (top < (0 :
  Int))) z2 (br (decide (top > (65536 : Int))) z2 (br (decide (list < (0 : Int))) z2 (br (decide (list > (2147483647 : Int))) z2 (br (decide (top < (0 : Int))) (∃ g : GU,
  ((((0 : Int) <= g.2 /\ g.2 <= (65536 : Int)) /\ (0 : Int) <= g.3 /\ g.3 <= (2147483647 : Int)) /\ ((0 = 0) /\ ((List.length g.1 = List.length l) /\ ((0 = 0) /\ ((0 = 0) /\
  (((↑0 : Int) = (0 : Int)) /\ ((Eq (α := List Value) (gC enB g.1) (gC enB l)) /\ ((Plain (gC enB g.1)) /\ ((0 = 0) /\ ((g.2 = top) /\ ((g.3 = list) /\ ((false = false) /\
  ((0 = 0) /\ (((↑(smZ [] 0) : Int) = (0 : Int)) /\ ((g.2 = top) /\ False)))))))))))))))) (br (decide (top > (65536 : Int))) (∃ g : GU, ((((0 : Int) <= g.2 /\ g.2 <= (65536
  : Int)) /\ (0 : Int) <= g.3 /\ g.3 <= (2147483647 : Int)) /\ ((0 = 0) /\ ((List.length g.1 = List.length l) /\ ((0 = 0) /\ ((0 = 0) /\ (((↑0 : Int) = (0 : Int)) /\ ((Eq (α
  := List Value) (gC enB g.1) (gC enB l)) /\ ((Plain (gC enB g.1)) /\ ((0 = 0) /\ ((g.2 = top) /\ ((g.3 = list) /\ ((false = false) /\ ((0 = 0) /\ (((↑(smZ [] 0) : Int) = (0
  : Int)) /\ ((g.2 = top) /\ False)))))))))))))))) (∃ g : GU, ((((0 : Int) <= g.2 /\ g.2 <= (65536 : Int)) /\ (0 : Int) <= g.3 /\ g.3 <= (2147483647 : Int)) /\ ((0 = 0) /\
  ((List.length g.1 = List.length l) /\ ((0 = 0) /\ ((0 = 0) /\ (((↑0 : Int) = (0 : Int)) /\ ((Eq (α := List Value) (gC enB g.1) (gC enB l)) /\ ((Plain (gC enB g.1)) /\ ((0
  = 0) /\ ((g.2 = top) /\ ((g.3 = list) /\ ((false = false) /\ ((0 = 0) /\ (((↑(smZ [] 0) : Int) = (0 : Int)) /\ ((g.2 = top) /\ ((0 = 0) /\ ((g.2 = top) /\ ((g.3 = list) /\
  ((false = false) /\ ((0 = 0) /\ ((g.2 = top) /\ ((Eq (α := List Value) ([]) ([])) /\ ((Eq (α := List Value) ([]) ([])) /\ (∀ (side : Bool), (br (side) (∀ (y : Unit),
  ((True) → (((True /\ (True /\ (True /\ True)))) /\ ((true = true) /\ ((Eq (α := List Value) (gC enB l) (gC enB g.1)) /\ ((Plain (gC enB l)) /\ True)))))) (∀ (y : Unit),
  ((False) → ((true = false) /\ ((Eq (α := List Value) (gC enB l) (gC enB g.1)) /\ ((Plain (gC enB l)) /\ True))))))))))))))))))))))))))))))))))))))))) := by kernel_rfl
theorem eRoo_ok : EntOk Try.prog eRoo := entC_ok (by
  intro a rows p v news h hp
  split at h <;> simp only [Option.some.injEq, Prod.mk.injEq, reduceCtorEq] at h
  obtain ⟨rfl, rfl, rfl⟩ := h
  obtain ⟨⟨l, rfl, rfl⟩, ⟨m, rfl⟩, h1⟩ := hp
  simp only [padC, dB_ro, u8i, Int.toNat_natCast, UInt8.ofNat_toNat]
  exact Go.Proofs.Ytellbmbklfbbfaa.bk.roomy_con l m h1)
theorem eIntB_ok : EntOk Try.prog eIntB := entC_ok (by
  intro a rows p v news h hp
  split at h <;> simp only [Option.some.injEq, Prod.mk.injEq, reduceCtorEq] at h
  obtain ⟨rfl, rfl, rfl⟩ := h
  obtain ⟨⟨l, rfl, rfl⟩, ⟨l2, rfl, rfl⟩, ⟨m, rfl⟩, h1, h2⟩ := hp
  simp only [inI, dB_ro, u8i, Int.toNat_natCast, UInt8.ofNat_toNat, List.append_nil]
  exact Go.Proofs.Ytellbmbklfbbfaa.bk.int_con l l2 m h1 h2)
theorem eRunsP_ok : EntOk Try.prog eRunsP := entC_ok (by
  intro a rows p v news h hp
  split at h <;> simp only [Option.some.injEq, Prod.mk.injEq, reduceCtorEq] at h
  obtain ⟨rfl, rfl, rfl⟩ := h
  exact rn_law)
theorem eRuB_ok : EntOk Try.prog eRuB := by
  intro a rows p v n' rl he hp
  simp only [eRuB] at he
  split at he
  · simp only [Option.some.injEq, Prod.mk.injEq] at he
    obtain ⟨rfl, rfl, rfl, rfl⟩ := he
    rename_i m top list bad r1 k mo r3
    obtain ⟨⟨b, rfl, rfl, hb⟩, ⟨l, j, rfl, rfl, ho⟩, ht⟩ := hp
    have := RB_con ⟨top, list, b⟩ bad ⟨l, j, mo⟩ hb ho ht
    unfold ubE ubN ubW ubB ubK ubM ubF
    simp only [sealV_eq, dB_ro, row_T]
    exact this
  · simp at he
theorem tP_ok : ∀ x ∈ tP, EntOk Try.prog x := all_cons eUb_ok (all_cons eRuB_ok (all_cons eRoo_ok (all_cons eIntB_ok (all_cons eSaW_ok (all_cons eSzR_ok (all_cons eRunsP_ok (all_nil)))))))
theorem padC_mk (m : List UInt8) : padC ⟨bCells m, true, .cells true⟩ 9 = bCells (pad80 m 9) := by
  unfold padC; rw [dB_mk]; rfl
theorem padLen (m : List UInt8) : (pad80 m 9).length = m.length + 80 := by simp [pad80]
theorem inI_mk (m : List UInt8) : inI ⟨bCells (pad80 m 9), true, .cells true⟩ ⟨bCells m, true, .cells true⟩ 9 = true := by
  unfold inI; rw [dB_mk, dB_mk]; exact decide_eq_true rfl
theorem isU8_9 : IsU8 9 := ⟨9, rfl⟩
theorem P_piece : PieceOk EtP 1 (4, pUp, specP) := by
  refine piece_loop tk.mixed (calls_envT tP_ok) (lok_envT _ _) (M := noM) lm_none (n := 60) (by kernel_rfl) (fun g : GU => (⟨0, false, ⟨[], [], g.m⟩⟩ : SU)) InvU (fun g s => g.l.length - s.i) (sl := slP) (rl := rlP) (fun g hg => ⟨Nat.zero_le _, ⟨⟨hg.1.1, hg.1.1, hg.1.2⟩, Int.le_refl _⟩⟩) (fun g s hg hi => ?_)
  refine (P_round g s _ _).mpr ?_
  obtain ⟨⟨g1, g2⟩, g3, g4⟩ := hg
  obtain ⟨i, bad, ⟨tl, tj, tm⟩⟩ := s
  obtain ⟨h1, h2, h3⟩ := hi
  simp only at h1 h2 h3
  have one : ∀ l : List Fl, smN (l.take l.length) = smN l := fun l => by rw [List.take_length]
  simp only [ofNat_eq, toNat_cast, Nat.zero_add, Nat.add_zero, Nat.mul_one, List.drop_zero, bCells_len, bCells_drop, bCells_take, bCells_app, bCells_one, bCells_plain, List.length_replicate, List.length_append, List.length_take, List.length_drop, List.take_length, and_true, true_and, and_self, decide_true, List.length_nil, List.length_cons, Nat.sub_zero, dB_mk, dB_ro, List.take_zero, z_smZ, one, fPl, plW, enB_pl]
  refine br_if (fun h => ?_) (fun h => ⟨(), trivial⟩)
  refine br_if (fun h12 => ?_) (fun h12 => ⟨(), trivial⟩)
  have hic : i < g.l.length := by have : (i : Int) < (g.l.length : Int) := h; omega
  have hc := cBf hic
  obtain ⟨z1, z2, z3⟩ := cZ_of hc
  have hz : gCells (gCode (bCells g.l[i])) = bCells g.l[i] := gCells_code (bCells_g _)
  have hO : Ok ⟨tl, tj, tm⟩ := h2
  have hTs : IsTs ⟨gC enF (tl ++ tj), false, .cells true⟩ tl.length (smN tl : Nat) tm := ⟨tl, tj, rfl, rfl, rfl, h2⟩
  have hTo : IsTo ⟨gC enF (tl ++ tj), false, .cells true⟩ tl.length tm := ⟨tl, tj, rfl, rfl, h2⟩
  have hTp : TopP g.m g.n tm := ⟨g2, g3, by omega, h3⟩
  have w1 : IntKind.i64.wrap ((i : Int) + 1) = ((i + 1 : Nat) : Int) := by rw [wr64_id (by have : (i : Int) < 12 := h12; unfold I64; omega)]; omega
  have ub := fun (P : List UInt8) => ub_mk P g.m g.n bad tl tj tm true (.cells true)
  simp only [ofNat_eq, toNat_cast, Nat.zero_add, Nat.add_zero, Nat.mul_one, List.drop_zero, bCells_len, bCells_drop, bCells_take, bCells_app, bCells_one, bCells_plain, List.length_replicate, List.length_append, List.length_take, List.length_drop, List.take_length, and_true, true_and, and_self, decide_true, List.length_nil, List.length_cons, Nat.sub_zero, dB_mk, dB_ro, List.take_zero, hc, z1, z2, z3, hz, padC_mk, (ub _).1, (ub _).2.1, (ub _).2.2.1, (ub _).2.2.2.1, (ub _).2.2.2.2.1, (ub _).2.2.2.2.2.1, (ub _).2.2.2.2.2.2.1, (ub _).2.2.2.2.2.2.2, fPl, plW, hTs, hTo, hTp, w1]
  have fin : ∀ (q : List UInt8) (n k : Nat), q.length ≤ 400 → n = q.length → k = q.length + 80 → List.take n (pad80 q 9) = q ∧ List.take k (pad80 q 9) = pad80 q 9 := fun q n k _ e1 e2 => by
    refine ⟨by rw [e1]; unfold pad80; rw [List.take_left], List.take_of_length_le (by rw [padLen]; omega)⟩
  have hm : maxLen = 9223372036854775807 := by unfold maxLen; rfl
  have wT : ∀ W : List Wr, List.take (W.length * 3) (gC enW W) = gC enW W := fun W => List.take_of_length_le (by rw [gC_len wK3]; exact Nat.le_refl _)
  have wL : ∀ W : List Wr, (gC enW W).length = W.length * 3 := fun W => gC_len wK3 W
  have sS : ∀ W : List Wr, IsSe ⟨gC enW W, true, .cells true⟩ W.length := fun W => ⟨W, rfl, rfl⟩
  have brF : ∀ p q : Prop, br false p q = q := fun p q => rfl
  have sz := fun T : Tb => sz_mk T.l T.j false (.cells true) T.l.length (Nat.le_refl _)
  refine br_dec (by omega) (br_if (fun hp => br_dec (by omega) ?_) (fun hp => ?_))
  · have hq : (g.l[i].take 400).length = 400 := by rw [List.length_take]; omega
    obtain ⟨k1, k2⟩ := fin (g.l[i].take 400) 400 480 (by omega) hq.symm (by omega)
    rw [k1, k2]
    generalize g.l[i].take 400 = q at *
    obtain ⟨i1, ⟨i2, i2'⟩, i3, i4, i5, i6⟩ := up_iv ⟨g.m, g.n, q⟩ bad ⟨tl, tj, tm⟩ ⟨h2, h3⟩ g3
    generalize upE ⟨g.m, g.n, q⟩ bad ⟨tl, tj, tm⟩ = E at *
    generalize upW ⟨g.m, g.n, q⟩ bad ⟨tl, tj, tm⟩ = W at *
    generalize upT ⟨g.m, g.n, q⟩ bad ⟨tl, tj, tm⟩ = T at *
    generalize upB ⟨g.m, g.n, q⟩ bad ⟨tl, tj, tm⟩ = B at *
    obtain ⟨⟨o1, o2, o3⟩, o4⟩ := i1
    have ol := ok_len T.l
    have i2'' : W.length ≤ q.length := i2'
    have iq : IsB ⟨bCells q, true, .cells true⟩ 400 := isB_mk _ _ hq.symm
    have iq1 : IsB1 ⟨bCells q, true, .cells true⟩ 400 := ⟨q, rfl, hq.symm, by omega⟩
    have ip : IsB ⟨bCells (pad80 q 9), true, .cells true⟩ 480 := isB_mk _ _ (by rw [padLen]; omega)
    have iT : IsTr ⟨gC enF (T.l ++ T.j), false, .cells true⟩ T.l.length := ⟨T.l, T.j, rfl, Nat.le_refl _, by omega, by omega⟩
    have e1 := sz T
    rw [List.take_length] at e1
    have e2 : (!B == B) = false := by cases B <;> rfl
    simp only [wT, wL, sS, plW, saW_mk, sameSe_yes rfl, e1, e2, padLen, bne_self_eq_false, inI_mk, Bool.not_true, brF, iq, iq1, ip, iT, isU8_9, Nat.le_refl, and_true, true_and]
    exact ⟨⟨by omega, by omega⟩, by omega, by omega, by omega, ⟨⟨by omega, by omega⟩, by omega, by omega⟩, ⟨⟨i + 1, B, T⟩, ⟨by simp only; omega, ⟨o1, o2, o3⟩, o4⟩, by simp only; omega, rfl, rfl, rfl, rfl, rfl, rfl, rfl, rfl, rfl, rfl⟩⟩
  · have hq : g.l[i].length ≤ 400 := by omega
    obtain ⟨k1, k2⟩ := fin g.l[i] g.l[i].length (g.l[i].length + 80) (by omega) rfl rfl
    rw [k1, k2]
    generalize g.l[i] = q at *
    obtain ⟨i1, ⟨i2, i2'⟩, i3, i4, i5, i6⟩ := up_iv ⟨g.m, g.n, q⟩ bad ⟨tl, tj, tm⟩ ⟨h2, h3⟩ g3
    generalize upE ⟨g.m, g.n, q⟩ bad ⟨tl, tj, tm⟩ = E at *
    generalize upW ⟨g.m, g.n, q⟩ bad ⟨tl, tj, tm⟩ = W at *
    generalize upT ⟨g.m, g.n, q⟩ bad ⟨tl, tj, tm⟩ = T at *
    generalize upB ⟨g.m, g.n, q⟩ bad ⟨tl, tj, tm⟩ = B at *
    obtain ⟨⟨o1, o2, o3⟩, o4⟩ := i1
    have ol := ok_len T.l
    have i2'' : W.length ≤ q.length := i2'
    have iq : IsB ⟨bCells q, true, .cells true⟩ q.length := isB_mk _ _ rfl
    have iq1 : IsB1 ⟨bCells q, true, .cells true⟩ q.length := ⟨q, rfl, rfl, by omega⟩
    have ip : IsB ⟨bCells (pad80 q 9), true, .cells true⟩ (q.length + 80) := isB_mk _ _ (by rw [padLen])
    have iT : IsTr ⟨gC enF (T.l ++ T.j), false, .cells true⟩ T.l.length := ⟨T.l, T.j, rfl, Nat.le_refl _, by omega, by omega⟩
    have e1 := sz T
    rw [List.take_length] at e1
    have e2 : (!B == B) = false := by cases B <;> rfl
    simp only [wT, wL, sS, plW, saW_mk, sameSe_yes rfl, e1, e2, padLen, bne_self_eq_false, inI_mk, Bool.not_true, brF, iq, iq1, ip, iT, isU8_9, Nat.le_refl, and_true, true_and]
    exact ⟨by omega, br_dec (by omega) ⟨by omega, by omega, ⟨by omega, by omega⟩, ⟨⟨i + 1, B, T⟩, ⟨by simp only; omega, ⟨o1, o2, o3⟩, o4⟩, by simp only; omega, rfl, rfl, rfl, rfl, rfl, rfl, rfl, rfl, rfl, rfl⟩⟩⟩
theorem P_law (top list : Int) (l : List (List UInt8)) (ht : I64 top) (hs : I64 list) (hl : l.length ≤ maxLen) (ho : ∀ x ∈ l, x.length ≤ maxLen) : Con Try.prog 4 [.int .i64 top, .int .i64 list, slc 0 l.length] [gRo enB l] (.bool true) [gRo enB l] := by
  refine con_vc (E := EtP) tk.mixed (calls_envT tP_ok) (lok_envT _ _) (M := mP) (lm_one P_piece) (P_vc top list l) ?_
  simp only [ofNat_eq, toNat_cast, Nat.zero_add, Nat.add_zero, Nat.mul_one, List.drop_zero, bCells_len, bCells_drop, bCells_take, bCells_app, bCells_one, bCells_plain, List.length_replicate, List.length_append, List.length_take, List.length_drop, List.take_length, and_true, true_and, and_self, decide_true, List.length_nil, List.length_cons, Nat.sub_zero, dB_mk, dB_ro, List.take_zero, z_smZ, fPl, plW, enB_pl]
  refine br_if (fun a1 => br_dec a1 trivial) (fun a1 => br_if (fun a2 => br_nd a1 (br_dec a2 trivial)) (fun a2 => br_if (fun a3 => br_nd a1 (br_nd a2 (br_dec a3 trivial))) (fun a3 => br_if (fun a4 => br_nd a1 (br_nd a2 (br_nd a3 (br_dec a4 trivial)))) (fun a4 => br_nd a1 (br_nd a2 (br_nd a3 (br_nd a4 (br_nd a1 (br_nd a2 ?_)))))))))
  exact ⟨⟨l, top, list⟩, ⟨⟨by simp only; omega, by simp only; omega⟩, by simp only; omega, by simp only; omega⟩, rfl, rfl, rfl, rfl, rfl, rfl, rfl, rfl, rfl, fun side => br_side (fun _ _ => rfl) (fun _ h => h.elim) side⟩
end Go.Proofs.Ytellbmbklfbbfaa.up
