/- The document's own reader of blocks: texts, rows. -/
import Derived.Test.YtellbmbklfbbfaaSz9
import Derived.Test.YtellbmbklfbbfaaRows
import Derived.Test.YtellbmbklfbbfaaLupG
import Derived.Test.YtellbmbklfbbfaaLs3gr
import Derived.Test.YtellbmbklfbbfaaLrfB7
import Derived.Test.YtellbmbklfbbfaaLrdA7
set_option maxRecDepth 20000
set_option linter.unusedSimpArgs false
set_option linter.unusedVariables false
namespace Go.Proofs.Ytellbmbklfbbfaa.up
open Go Go.Ev Go.Sy Go.RowKit Go.Proofs.Ytellbmbklfbbfaa.gl Go.Proofs.Ytellbmbklfbbfaa.tk Go.Proofs.Ytellbmbklfbbfaa.hf Go.Proofs.Ytellbmbklfbbfaa.s3 Go.Proofs.Ytellbmbklfbbfaa.tb
noncomputable def eGtR : EntM := entC 25 fun a r => match a, r with
  | [.slice (some ⟨0, 0, none⟩) m 1, .int .i64 i, .int .i64 n], [r0] => some (IsB r0 m ∧ m ≤ maxLen, .tuple #[.int .i64 (gt1 r0 i n), .int .i64 (gt2 r0 i n), .int .i64 (gt3 r0 i n)], [])
  | _, _ => none
noncomputable def eDeR : EntM := entC 49 fun a r => match a, r with
  | [.slice (some ⟨0, 0, none⟩) m 1], [r0] => some (IsB r0 m ∧ m ≤ 1048576, .tuple #[.string (deT r0), .int .i64 (deE r0)], [])
  | _, _ => none
def txQ (b : List UInt8) (i : Nat) : Nat :=
  if b.length ≤ i then 0
  else if (nuR b i 7).e ≠ 0 then 0
  else if 65536 < (nuR b i 7).v then 0
  else if b.length < (nuR b i 7).p + (nuR b i 7).v then 0
  else if atB b i < 128 then (nuR b i 7).p + (nuR b i 7).v
  else if decE ((b.drop (nuR b i 7).p).take (nuR b i 7).v) ≠ 0 then (nuR b i 7).p + (nuR b i 7).v
  else if 65536 < (decT ((b.drop (nuR b i 7).p).take (nuR b i 7).v)).length then 0
  else (nuR b i 7).p + (nuR b i 7).v
noncomputable def rxP : Row → Int → Int := sealV fun r i => (txQ (dB r) i.toNat : Nat)
noncomputable def eRTx : EntM := entC 39 fun a r => match a, r with
  | [.slice (some ⟨0, 0, none⟩) m 1, .int .i64 i], [r0] => some (IsAt r0 m i, .tuple #[.string (txV r0 i), .int .i64 (rxP r0 i), .int .i64 (txE r0 i)], [])
  | _, _ => none
noncomputable def tRt : List EntM := [eGtR, eDeR]
noncomputable abbrev EtRt : Env := envT Try.prog tRt
noncomputable def tRr : List EntM := [eGtR, eRTx, eGetR, eAddR]
noncomputable abbrev EtRr : Env := envT Try.prog tRr
noncomputable def nuT (b : List UInt8) (i n : Nat) : Nat := (getOut b i n).2.1
structure RwY where
  e : Nat
  p : Nat
  f : Fl
  h : Int
  t : Tb
noncomputable def rwIx (t : Tb) (b : List UInt8) (i : Nat) : RwY := ⟨if (nuR b i 7).e ≠ 0 then (nuR b i 7).e else if (getF t.l ((nuR b i 7).v : Nat)).2 = false then 5 else 0, nuT b i 7, (getF t.l ((nuR b i 7).v : Nat)).1, 1, t⟩
noncomputable def rwLi (t : Tb) (b : List UInt8) (i n : Nat) (h : Int) (ad : Bool) : RwY := if (liR t.l b i n).e ≠ 0 then ⟨(liR t.l b i n).e, 0, no0, 0, t⟩ else ⟨0, (liR t.l b i n).p, (liR t.l b i n).v, h, if ad then addT t (liR t.l b i n).v else t⟩
noncomputable def rwY (t : Tb) (b : List UInt8) (i : Nat) : RwY := if 128 ≤ atB b i then rwIx t b i else if 64 ≤ atB b i then rwLi t b i 6 1 true else if 16 ≤ atB b i then rwLi t b i 4 3 false else rwLi t b i 4 2 false
theorem Rt_vc (b : List UInt8) (i : Int) (s : ByteArray) (p e : Int) : mcall EtRt noM 60 39 [slc 0 b.length, .int .i64 i] ⟨mkR (nums 0 [bRo b]), 1⟩ (retIs 1 (.tuple #[.string s, .int .i64 p, .int .i64 e]) [bRo b]) =
  let z1 := (Row.mk (List.take (List.length b * 1) (List.drop 0 (bCells b))) true (Ob.cells true)); let z4 := (Int.toNat (IntKind.wrap IntKind.i64 (gt2 z1 i (7 : Int) + gt1
  z1 i (7 : Int))) - Int.toNat (gt2 z1 i (7 : Int))); let z2 := (List.take (z4 * 1) (List.drop (0 + Int.toNat (gt2 z1 i (7 : Int)) * 1) (bCells b))); let z3 := ((Eq (α :=
  List Value) (bCells b) (bCells b)) /\ ((Plain (bCells b)) /\ True)); let z5 := (decide ((0 : Int) <= gt2 z1 i (7 : Int) /\ gt2 z1 i (7 : Int) <= IntKind.wrap IntKind.i64
  (gt2 z1 i (7 : Int) + gt1 z1 i (7 : Int)) /\ IntKind.wrap IntKind.i64 (gt2 z1 i (7 : Int) + gt1 z1 i (7 : Int)) <= (↑(List.length b) : Int))); let z6 := ((s = deT (Row.mk
  z2 true (Ob.cells true))) /\ ((p = IntKind.wrap IntKind.i64 (gt2 z1 i (7 : Int) + gt1 z1 i (7 : Int))) /\ ((e = deE (Row.mk z2 true (Ob.cells true))) /\ z3))); let z7 :=
  (List.take z4 (List.drop (0 + Int.toNat (gt2 z1 i (7 : Int)) * 1) (bCells b))); let z8 := ((s = ByteArray.mk #[]) /\ ((p = (0 : Int)) /\ ((e = (3 : Int)) /\ z3))); let z9
  := ((s = ByteArray.mk #[]) /\ ((p = (0 : Int)) /\ ((e = (2 : Int)) /\ z3))); (br (decide (i ≥ Int.ofNat (List.length b))) z8 (br (decide ((0 : Int) <= i /\ i <
  (↑(List.length b) : Int))) ((Eq (α := Option Value) ((bCells b)[0 + Int.toNat i * 1]?) (some (Value.int IntKind.u8 (cellI (bCells b) (0 + Int.toNat i * 1))))) /\ (((((0 +
  List.length b * 1 <= List.length (bCells b) /\ Plain (List.take (List.length b * 1) (List.drop 0 (bCells b)))) /\ (True /\ (True /\ True))) /\ ((True /\ True) /\ (True /\
  (IsB z1 (List.length b) /\ List.length b <= 9223372036854775807))))) /\ (br (gt3 z1 i (7 : Int) != (0 : Int)) ((s = ByteArray.mk #[]) /\ ((p = (0 : Int)) /\ ((e = gt3 z1 i
  (7 : Int)) /\ z3))) (br (decide (gt1 z1 i (7 : Int) > (65536 : Int))) z9 (br (decide (gt1 z1 i (7 : Int) > IntKind.wrap IntKind.i64 (Int.ofNat (List.length b) - gt2 z1 i
  (7 : Int)))) z8 (br (!decide (cellI (bCells b) (0 + Int.toNat i * 1) ≥ (128 : Int))) (br z5 (br (decide (0 + Int.toNat (gt2 z1 i (7 : Int)) * 1 + z4 <= List.length (bCells
  b))) ((AllB z7) /\ ((s = ByteArray.mk (Array.mk (List.map bOf z7))) /\ ((p = IntKind.wrap IntKind.i64 (gt2 z1 i (7 : Int) + gt1 z1 i (7 : Int))) /\ ((e = (0 : Int)) /\
  z3)))) False) False) (br z5 (((((0 + Int.toNat (gt2 z1 i (7 : Int)) * 1 + z4 * 1 <= List.length (bCells b) /\ Plain z2) /\ True) /\ ((True /\ True) /\ (True /\ (IsB
  (Row.mk z2 true (Ob.cells true)) z4 /\ Int.toNat (IntKind.wrap IntKind.i64 (gt2 z1 i (7 : Int) + gt1 z1 i (7 : Int))) - Int.toNat (gt2 z1 i (7 : Int)) <= 1048576))))) /\
  (br (deE (Row.mk z2 true (Ob.cells true)) == (0 : Int)) (br (decide (Int.ofNat (List.length (Array.toList (ByteArray.data (deT (Row.mk z2 true (Ob.cells true)))))) >
  (65536 : Int))) z9 z6) z6)) False))))))) False)) := by kernel_rfl
theorem Rr_vc (b : List UInt8) (i top list : Int) (bad : Bool) (t u : Tb) (x y : ByteArray) (h p e : Int) : mcall EtRr noM 60 27 [.pointer (some ⟨0, 0, none⟩), slc 1 b.length, .int .i64 i] ⟨mkR (nums 0 [rd1 top list bad 2, bRo b, rtC t.l.length t.most 3, gOwn enF (t.l ++ t.j)]), 4⟩ (retIsM 4 (.tuple ⟨[.agg ⟨[.string x, .string y, .int .i64 h]⟩, .int .i64 p, .int .i64 e]⟩) 5 [(0, rd1 top list bad 2), (1, bRo b), (2, rtC u.l.length u.most 4), (4, gOwn enF (u.l ++ u.j))]) =
  let z1 := (Row.mk (List.take (List.length b * 1) (List.drop 0 (bCells b))) true (Ob.cells true)); let z2 := ((0 = 0) /\ ((top = top) /\ ((list = list) /\ ((bad = bad) /\
  ((Eq (α := List Value) (bCells b) (bCells b)) /\ ((Plain (bCells b)) /\ ((0 = 0) /\ ((List.length u.1 = List.length t.1) /\ ((u.3 = t.3) /\ ((Eq (α := List Value) (gC enF
  (u.1 ++ u.2)) (gC enF (t.1 ++ t.2))) /\ ((Plain (gC enF (u.1 ++ u.2))) /\ True))))))))))); let z3 := (Row.mk (gC enF (t.1 ++ t.2)) false (Ob.cells true)); let z4 := (0 +
  List.length b * 1 <= List.length (bCells b) /\ Plain (List.take (List.length b * 1) (List.drop 0 (bCells b)))); let z5 := ((x = ByteArray.mk #[]) /\ ((y = ByteArray.mk
  #[]) /\ ((h = (0 : Int)) /\ ((p = (0 : Int)) /\ ((e = txE z1 (gt2 z1 i (4 : Int))) /\ z2))))); let z6 := (((z4 /\ (True /\ (True /\ True))) /\ ((True /\ True) /\ (True /\
  (IsB z1 (List.length b) /\ List.length b <= 9223372036854775807))))); let z7 := ((True /\ (True /\ True)) /\ (Plain (gC enF (t.1 ++ t.2)) /\ True)); let z8 := (((z4 /\
  (True /\ True)) /\ ((True /\ True) /\ (True /\ IsAt z1 (List.length b) (gt2 z1 i (4 : Int)))))); let z9 := (Eq (α := Option Value) ((bCells b)[0 + Int.toNat i * 1]?) (some
  (Value.int IntKind.u8 (cellI (bCells b) (0 + Int.toNat i * 1))))); let z10 := ((x = ByteArray.mk #[]) /\ ((y = ByteArray.mk #[]) /\ ((h = (0 : Int)) /\ ((p = (0 : Int)) /\
  ((e = (5 : Int)) /\ z2))))); let z11 := (gfA z3 (List.length t.1) (gt1 z1 i (6 : Int))); let z12 := ((x = gfA z3 (List.length t.1) (gt1 z1 i (7 : Int))) /\ ((y = gfB z3
  (List.length t.1) (gt1 z1 i (7 : Int))) /\ ((h = (1 : Int)) /\ ((p = gt2 z1 i (7 : Int)) /\ ((e = gt3 z1 i (7 : Int)) /\ z2))))); let z13 := ((x = ByteArray.mk #[]) /\ ((y
  = ByteArray.mk #[]) /\ ((h = (0 : Int)) /\ ((p = (0 : Int)) /\ ((e = txE z1 (rxP z1 (gt2 z1 i (4 : Int)))) /\ z2))))); let z14 := ((x = ByteArray.mk #[]) /\ ((y =
  ByteArray.mk #[]) /\ ((h = (0 : Int)) /\ ((p = (0 : Int)) /\ ((e = txE z1 (gt2 z1 i (6 : Int))) /\ z2))))); let z15 := (((True /\ (True /\ True)) /\ (z7 /\ ((Plain (gC enF
  (t.1 ++ t.2)) /\ True) /\ (IsTg z3 (List.length t.1) /\ I64 (gt1 z1 i (4 : Int))))))); let z16 := ((x = ByteArray.mk #[]) /\ ((y = ByteArray.mk #[]) /\ ((h = (0 : Int)) /\
  ((p = (0 : Int)) /\ ((e = gt3 z1 i (4 : Int)) /\ z2))))); let z17 := (Array.mk [Value.string (txV z1 (gt2 z1 i (6 : Int))), Value.string (txV z1 (rxP z1 (gt2 z1 i (6 :
  Int))))]); let z18 := (((z4 /\ (True /\ True)) /\ ((True /\ True) /\ (True /\ IsAt z1 (List.length b) (rxP z1 (gt2 z1 i (4 : Int))))))); let z19 := (decide ((0 : Int) <= i
  /\ i < (↑(List.length b) : Int))); let z20 := (adC z3 (List.length t.1) t.3 (txV z1 (gt2 z1 i (6 : Int))) (txV z1 (rxP z1 (gt2 z1 i (6 : Int))))); let z21 := (((z4 /\
  (True /\ True)) /\ ((True /\ True) /\ (True /\ IsAt z1 (List.length b) (gt2 z1 i (6 : Int)))))); let z22 := (Value.pointer (some (Addr.mk 2 0 none)) = Value.pointer (some
  (Addr.mk 2 0 none))); let z23 := (Array.mk [Value.string z11, Value.string (txV z1 (gt2 z1 i (6 : Int)))]); let z24 := ((p = rxP z1 (rxP z1 (gt2 z1 i (4 : Int)))) /\ ((e =
  (0 : Int)) /\ z2)); let z25 := (adC z3 (List.length t.1) t.3 z11 (txV z1 (gt2 z1 i (6 : Int)))); let z26 := ((p = rxP z1 (gt2 z1 i (4 : Int))) /\ ((e = (0 : Int)) /\ z2));
  let z27 := (x = gfA z3 (List.length t.1) (gt1 z1 i (4 : Int))); let z28 := (txE z1 (rxP z1 (gt2 z1 i (4 : Int))) != (0 : Int)); let z29 := (!gfK z3 (List.length t.1) (gt1
  z1 i (4 : Int))); (br z19 (z9 /\ (br (decide (cellI (bCells b) (0 + Int.toNat i * 1) ≥ (128 : Int))) (z6 /\ ((((True /\ (True /\ True)) /\ (z7 /\ ((Plain (gC enF (t.1 ++
  t.2)) /\ True) /\ (IsTg z3 (List.length t.1) /\ I64 (gt1 z1 i (7 : Int))))))) /\ (br (gt3 z1 i (7 : Int) == (0 : Int)) (br (!gfK z3 (List.length t.1) (gt1 z1 i (7 : Int)))
  ((x = gfA z3 (List.length t.1) (gt1 z1 i (7 : Int))) /\ ((y = gfB z3 (List.length t.1) (gt1 z1 i (7 : Int))) /\ ((h = (1 : Int)) /\ ((p = gt2 z1 i (7 : Int)) /\ ((e = (5 :
  Int)) /\ z2))))) z12) z12))) (br z19 (z9 /\ (br (decide (cellI (bCells b) (0 + Int.toNat i * 1) ≥ (64 : Int))) (z6 /\ (br (gt3 z1 i (6 : Int) != (0 : Int)) ((x =
  ByteArray.mk #[]) /\ ((y = ByteArray.mk #[]) /\ ((h = (0 : Int)) /\ ((p = (0 : Int)) /\ ((e = gt3 z1 i (6 : Int)) /\ z2))))) (br (decide (gt1 z1 i (6 : Int) > (0 : Int)))
  ((((True /\ (True /\ True)) /\ (z7 /\ ((Plain (gC enF (t.1 ++ t.2)) /\ True) /\ (IsTg z3 (List.length t.1) /\ I64 (gt1 z1 i (6 : Int))))))) /\ (br (!gfK z3 (List.length
  t.1) (gt1 z1 i (6 : Int))) z10 (z21 /\ (br (txE z1 (gt2 z1 i (6 : Int)) != (0 : Int)) z14 ((((True /\ ((True /\ (True /\ True)) /\ True)) /\ (z7 /\ ((Plain z25 /\ True) /\
  (IsTb z3 (List.length t.1) (szR z3 (List.length t.1)) /\ (fbZ z11 (txV z1 (gt2 z1 i (6 : Int))) <= 100000000 /\ ((0 : Int) <= t.3 /\ t.3 <= (100000000 : Int)))))))) /\
  (z22 /\ ((Value.agg z23 = Value.agg z23) /\ ((x = gfA z3 (List.length t.1) (gt1 z1 i (6 : Int))) /\ ((y = txV z1 (gt2 z1 i (6 : Int))) /\ ((h = (1 : Int)) /\ ((p = rxP z1
  (gt2 z1 i (6 : Int))) /\ ((e = (0 : Int)) /\ ((0 = 0) /\ ((top = top) /\ ((list = list) /\ ((bad = bad) /\ ((Eq (α := List Value) (bCells b) (bCells b)) /\ ((Plain (bCells
  b)) /\ ((0 = 0) /\ ((List.length u.1 = adN z3 (List.length t.1) t.3 z11 (txV z1 (gt2 z1 i (6 : Int)))) /\ ((u.3 = t.3) /\ ((Eq (α := List Value) (gC enF (u.1 ++ u.2)) z25)
  /\ ((Plain (gC enF (u.1 ++ u.2))) /\ True))))))))))))))))))))))) (z21 /\ (br (txE z1 (gt2 z1 i (6 : Int)) != (0 : Int)) z14 ((((z4 /\ (True /\ True)) /\ ((True /\ True) /\
  (True /\ IsAt z1 (List.length b) (rxP z1 (gt2 z1 i (6 : Int))))))) /\ (br (txE z1 (rxP z1 (gt2 z1 i (6 : Int))) != (0 : Int)) ((x = ByteArray.mk #[]) /\ ((y = ByteArray.mk
  #[]) /\ ((h = (0 : Int)) /\ ((p = (0 : Int)) /\ ((e = txE z1 (rxP z1 (gt2 z1 i (6 : Int)))) /\ z2))))) ((((True /\ ((True /\ (True /\ True)) /\ True)) /\ (z7 /\ ((Plain
  z20 /\ True) /\ (IsTb z3 (List.length t.1) (szR z3 (List.length t.1)) /\ (fbZ (txV z1 (gt2 z1 i (6 : Int))) (txV z1 (rxP z1 (gt2 z1 i (6 : Int)))) <= 100000000 /\ ((0 :
  Int) <= t.3 /\ t.3 <= (100000000 : Int)))))))) /\ (z22 /\ ((Value.agg z17 = Value.agg z17) /\ ((x = txV z1 (gt2 z1 i (6 : Int))) /\ ((y = txV z1 (rxP z1 (gt2 z1 i (6 :
  Int)))) /\ ((h = (1 : Int)) /\ ((p = rxP z1 (rxP z1 (gt2 z1 i (6 : Int)))) /\ ((e = (0 : Int)) /\ ((0 = 0) /\ ((top = top) /\ ((list = list) /\ ((bad = bad) /\ ((Eq (α :=
  List Value) (bCells b) (bCells b)) /\ ((Plain (bCells b)) /\ ((0 = 0) /\ ((List.length u.1 = adN z3 (List.length t.1) t.3 (txV z1 (gt2 z1 i (6 : Int))) (txV z1 (rxP z1
  (gt2 z1 i (6 : Int))))) /\ ((u.3 = t.3) /\ ((Eq (α := List Value) (gC enF (u.1 ++ u.2)) z20) /\ ((Plain (gC enF (u.1 ++ u.2))) /\ True)))))))))))))))))))))))))) (br z19
  (z9 /\ (br (decide (cellI (bCells b) (0 + Int.toNat i * 1) ≥ (16 : Int))) (z6 /\ (br (gt3 z1 i (4 : Int) != (0 : Int)) z16 (br (decide (gt1 z1 i (4 : Int) > (0 : Int)))
  (z15 /\ (br z29 z10 (z8 /\ (br (txE z1 (gt2 z1 i (4 : Int)) != (0 : Int)) z5 (z27 /\ ((y = txV z1 (gt2 z1 i (4 : Int))) /\ ((h = (3 : Int)) /\ z26))))))) (z8 /\ (br (txE
  z1 (gt2 z1 i (4 : Int)) != (0 : Int)) z5 (z18 /\ (br z28 z13 ((x = txV z1 (gt2 z1 i (4 : Int))) /\ ((y = txV z1 (rxP z1 (gt2 z1 i (4 : Int)))) /\ ((h = (3 : Int)) /\
  z24)))))))))) (z6 /\ (br (gt3 z1 i (4 : Int) != (0 : Int)) z16 (br (decide (gt1 z1 i (4 : Int) > (0 : Int))) (z15 /\ (br z29 z10 (z8 /\ (br (txE z1 (gt2 z1 i (4 : Int)) !=
  (0 : Int)) z5 (z27 /\ ((y = txV z1 (gt2 z1 i (4 : Int))) /\ ((h = (2 : Int)) /\ z26))))))) (z8 /\ (br (txE z1 (gt2 z1 i (4 : Int)) != (0 : Int)) z5 (z18 /\ (br z28 z13 ((x
  = txV z1 (gt2 z1 i (4 : Int))) /\ ((y = txV z1 (rxP z1 (gt2 z1 i (4 : Int)))) /\ ((h = (2 : Int)) /\ z24)))))))))))) False))) False))) False) := by kernel_rfl
theorem eGtR_ok : EntOk Try.prog eGtR := entC_ok (by
  intro a rows p v news h hp
  split at h <;> simp only [Option.some.injEq, Prod.mk.injEq, reduceCtorEq] at h
  obtain ⟨rfl, rfl, rfl⟩ := h
  obtain ⟨⟨x, rfl, rfl⟩, hl⟩ := hp
  unfold gt1 gt2 gt3
  rw [sealV_eq, sealV_eq, sealV_eq]
  simp only [dB_ro]
  exact getR_con x _ _ hl)
theorem eDeR_ok : EntOk Try.prog eDeR := entC_ok (by
  intro a rows p v news h hp
  split at h <;> simp only [Option.some.injEq, Prod.mk.injEq, reduceCtorEq] at h
  obtain ⟨rfl, rfl, rfl⟩ := h
  obtain ⟨⟨x, rfl, rfl⟩, hl⟩ := hp
  unfold deT deE
  rw [sealV_eq, sealV_eq]
  simp only [dB_ro]
  exact Go.Proofs.Ytellbmbklfbbfaa.md.Rd_con x hl)
theorem tRt_ok : ∀ x ∈ tRt, EntOk Try.prog x := all_cons eGtR_ok (all_cons eDeR_ok (all_nil))
theorem gq_mk (b : List UInt8) (i n : Nat) : gt1 (bRo b) i n = ((nuR b i n).v : Nat) ∧ gt2 (bRo b) i n = (nuT b i n : Nat) ∧ gt3 (bRo b) i n = ((nuR b i n).e : Nat) := by
  unfold gt1 gt2 gt3
  rw [sealV_eq, sealV_eq, sealV_eq, dB_ro]
  exact ⟨rfl, rfl, rfl⟩
theorem nuT_p (b : List UInt8) (i n : Nat) (h : (nuR b i n).e = 0) : nuT b i n = (nuR b i n).p := by
  unfold nuR at h ⊢
  simp only at h ⊢
  rw [if_pos h]; rfl
theorem txQ_p (b : List UInt8) (i : Nat) (h : (txR b i).e = 0) : txQ b i = (txR b i).p := by
  unfold txR at h ⊢
  unfold txQ
  split at h
  · simp at h
  rename_i g0
  rw [if_neg g0, if_neg g0]
  split at h
  · rename_i g; exact absurd h g
  rename_i g1
  rw [if_neg g1, if_neg g1]
  split at h
  · simp at h
  rename_i g2
  rw [if_neg g2, if_neg g2]
  split at h
  · simp at h
  rename_i g3
  rw [if_neg g3, if_neg g3]
  split at h
  · rename_i g4
    rw [if_pos g4, if_pos g4]
  rename_i g4
  rw [if_neg g4, if_neg g4]
  split at h
  · rename_i g5
    simp only at h
    unfold decE at g5 h
    split at h
    · rename_i g6; rw [if_pos g6] at g5; exact absurd rfl g5
    · simp at h
  rename_i g5
  rw [if_neg g5, if_neg g5]
  split at h
  · simp at h
  rename_i g6
  rw [if_neg g6, if_neg g6]
theorem decE_nat (l : List UInt8) : ((decE l).toNat : Int) = decE l := by unfold decE; split <;> rfl
theorem decT_bad (l : List UInt8) (h : decE l ≠ 0) : decT l = [] := by
  unfold decE at h
  unfold decT
  cases hd : decR l with
  | none => rfl
  | some x => rw [hd] at h; simp at h
theorem Rt_con (b : List UInt8) (i : Nat) (hb : b.length ≤ 1048576) (hi : i ≤ b.length) : Con Try.prog 39 [slc 0 b.length, .int .i64 (i : Nat)] [bRo b] (.tuple #[.string (bs (txR b i).v), .int .i64 (txQ b i : Nat), .int .i64 ((txR b i).e : Nat)]) [bRo b] := by
  refine con_vc (E := EtRt) tk.mixed (calls_envT tRt_ok) (lok_envT _ _) (M := noM) lm_none (Rt_vc b i _ _ _) ?_
  obtain ⟨n1, n2, n3⟩ := gq_mk b i 7
  have cN : ((7 : Nat) : Int) = 7 := rfl
  rw [cN] at n1 n2 n3
  have pb := bCells_plain b
  have hB : IsB (bRo b) b.length := ⟨b, rfl, rfl⟩
  have hm : maxLen = 9223372036854775807 := by unfold maxLen; rfl
  simp only [ofNat_eq, toNat_cast, Nat.zero_add, Nat.add_zero, Nat.mul_one, List.drop_zero, bCells_len, bCells_drop, bCells_take, bCells_app, bCells_one, bCells_plain, List.length_replicate, List.length_append, List.length_take, List.length_drop, List.take_length, and_true, true_and, and_self, decide_true, List.length_nil, List.length_cons, Nat.sub_zero, dB_mk, dB_ro, List.take_zero, Nat.mul_one, List.drop_zero, bTake, bRo_eq, n1, n2, n3, bCells_len, Nat.zero_add, pb, hB, Nat.le_refl, and_true, true_and]
  by_cases h0 : b.length ≤ i
  · have e : txR b i = ⟨3, i, []⟩ := if_pos h0
    have q : txQ b i = 0 := if_pos h0
    rw [e, q]
    exact br_dec (by omega) ⟨rfl, rfl, rfl⟩
  refine br_nd (by omega) (br_dec (by omega) ⟨bCells_at (by omega), by omega, ?_⟩)
  by_cases h1 : (nuR b i 7).e ≠ 0
  · have e : txR b i = ⟨(nuR b i 7).e, i, []⟩ := by unfold txR; rw [if_neg h0, if_pos h1]
    have q : txQ b i = 0 := by unfold txQ; rw [if_neg h0, if_pos h1]
    rw [e, q]
    exact br_b (by simp; omega) ⟨rfl, rfl, rfl⟩
  obtain ⟨s1, s2, s3⟩ := nu_spec b i 7 (by omega) (by omega)
  refine br_nb (by simp; omega) ?_
  have tx : txR b i = if 65536 < (nuR b i 7).v then ⟨2, (nuR b i 7).p, []⟩
    else if b.length < (nuR b i 7).p + (nuR b i 7).v then ⟨3, (nuR b i 7).p, []⟩
    else if atB b i < 128 then ⟨0, (nuR b i 7).p + (nuR b i 7).v, (b.drop (nuR b i 7).p).take (nuR b i 7).v⟩
    else if decE ((b.drop (nuR b i 7).p).take (nuR b i 7).v) ≠ 0 then ⟨(decE ((b.drop (nuR b i 7).p).take (nuR b i 7).v)).toNat, (nuR b i 7).p + (nuR b i 7).v, []⟩
    else if 65536 < (decT ((b.drop (nuR b i 7).p).take (nuR b i 7).v)).length then ⟨2, (nuR b i 7).p + (nuR b i 7).v, []⟩
    else ⟨0, (nuR b i 7).p + (nuR b i 7).v, decT ((b.drop (nuR b i 7).p).take (nuR b i 7).v)⟩ := by
    unfold txR; rw [if_neg h0, if_neg h1]
  have tq : txQ b i = if 65536 < (nuR b i 7).v then 0
    else if b.length < (nuR b i 7).p + (nuR b i 7).v then 0
    else if atB b i < 128 then (nuR b i 7).p + (nuR b i 7).v
    else if decE ((b.drop (nuR b i 7).p).take (nuR b i 7).v) ≠ 0 then (nuR b i 7).p + (nuR b i 7).v
    else if 65536 < (decT ((b.drop (nuR b i 7).p).take (nuR b i 7).v)).length then 0
    else (nuR b i 7).p + (nuR b i 7).v := by
    unfold txQ; rw [if_neg h0, if_neg h1]
  rw [nuT_p b i 7 (by omega)]
  generalize (nuR b i 7).p = p at *
  generalize (nuR b i 7).v = v at *
  by_cases h2 : 65536 < v
  · rw [tx, tq, if_pos h2, if_pos h2]
    exact br_dec (by omega) ⟨rfl, rfl, rfl⟩
  refine br_nd (by omega) ?_
  have w1 : IntKind.i64.wrap ((b.length : Int) - p) = ((b.length - p : Nat) : Int) := by rw [wr64_id (by unfold I64; omega)]; omega
  have w2 : IntKind.i64.wrap ((p : Int) + v) = ((p + v : Nat) : Int) := by rw [wr64_id (by unfold I64; omega)]; omega
  have w3 : p + v - p = v := by omega
  rw [if_neg h2] at tx tq
  by_cases h3 : b.length < p + v
  · rw [tx, tq, if_pos h3, if_pos h3]
    exact br_dec (by rw [w1]; omega) ⟨rfl, rfl, rfl⟩
  rw [if_neg h3] at tx tq
  simp only [w1, w2, toNat_cast, w3]
  refine br_nd (by omega) ?_
  have ec : cellI (bCells b) i = (atB b i : Nat) := bCells_cell (by omega)
  by_cases h4 : atB b i < 128
  · rw [tx, tq, if_pos h4, if_pos h4, ec]
    refine br_b (by simp; omega) (br_dec (by omega) (br_dec (by omega) ⟨bCells_all _, ?_, rfl, rfl⟩))
    rw [bCells_bOf]; rfl
  rw [if_neg h4] at tx tq
  rw [ec]
  refine br_nb (by simp; omega) (br_dec (by omega) ⟨⟨by omega, ⟨_, rfl, by rw [List.length_take, List.length_drop]; omega⟩, by omega⟩, ?_⟩)
  have d1 : ∀ x : List UInt8, deE (bRo x) = decE x := fun x => by unfold deE; rw [sealV_eq, dB_ro]
  have d2 : ∀ x : List UInt8, deT (bRo x) = bs (decT x) := fun x => by unfold deT; rw [sealV_eq, dB_ro]
  have bl : ∀ x : List UInt8, (bs x).data.toList.length = x.length := bs_len
  simp only [d1, d2, bl]
  generalize (b.drop p).take v = z at *
  by_cases h5 : decE z ≠ 0
  · rw [if_pos h5] at tx tq
    rw [tx, tq, decT_bad z h5]
    exact br_nb (by simp; exact h5) ⟨rfl, rfl, decE_nat z⟩
  rw [if_neg h5] at tx tq
  refine br_b (by simp; omega) ?_
  by_cases h6 : 65536 < (decT z).length
  · rw [if_pos h6] at tx tq
    rw [tx, tq]
    exact br_dec (by omega) ⟨rfl, rfl, rfl⟩
  · rw [if_neg h6] at tx tq
    rw [tx, tq]
    exact br_nd (by omega) ⟨rfl, rfl, by simp only; omega⟩
theorem eRTx_ok : EntOk Try.prog eRTx := entC_ok (by
  intro a rows p v news h hp
  split at h <;> simp only [Option.some.injEq, Prod.mk.injEq, reduceCtorEq] at h
  obtain ⟨rfl, rfl, rfl⟩ := h
  obtain ⟨x, rfl, rfl, hl, h1, h2⟩ := hp
  rename_i i
  have := Rt_con x i.toNat hl (by omega)
  rw [show ((i.toNat : Nat) : Int) = i by omega] at this
  unfold txV rxP txE
  rw [sealV_eq, sealV_eq, sealV_eq, dB_ro]
  exact this)
theorem tRr_ok : ∀ x ∈ tRr, EntOk Try.prog x := all_cons eGtR_ok (all_cons eRTx_ok (all_cons eGetR_ok (all_cons eAddR_ok (all_nil))))
theorem getL_bad (b : List UInt8) : ∀ r i v : Nat, (getL b r i v).2.2 ≠ 0 → (getL b r i v).1 = 0
  | 0, _, _, h => rfl
  | r + 1, i, v, h => by
    unfold getL at h ⊢
    split at h
    · rename_i g; rw [if_pos g]
    · rename_i g1
      rw [if_neg g1]
      split at h
      · rename_i g; rw [if_pos g]
      · rename_i g2
        rw [if_neg g2]
        split at h
        · simp at h
        · rename_i g3
          rw [if_neg g3]
          exact getL_bad b r _ _ h
theorem nu_bad (b : List UInt8) (i n : Nat) (h : (nuR b i n).e ≠ 0) : (nuR b i n).v ≤ 2147483647 := by
  unfold nuR at h ⊢
  simp only at h ⊢
  unfold getOut at h ⊢
  split at h
  · rename_i g; rw [if_pos g]; simp
  · rename_i g1
    rw [if_neg g1]
    split at h
    · rename_i g; rw [if_pos g]; simp
    · rename_i g2
      rw [if_neg g2]
      split at h
      · simp at h
      · rename_i g3
        rw [if_neg g3, getL_bad b _ _ _ h]
        omega
theorem Rr_con (b : List UInt8) (i : Nat) (top list : Int) (bad : Bool) (t : Tb) (hb : b.length ≤ 1048576) (hi : i < b.length) (ho : Ok t) : ConM Try.prog 27 [.pointer (some ⟨0, 0, none⟩), slc 1 b.length, .int .i64 (i : Nat)] [rd1 top list bad 2, bRo b, rtC t.l.length t.most 3, gOwn enF (t.l ++ t.j)] (.tuple ⟨[.agg ⟨[.string (bs (rwY t b i).f.n), .string (bs (rwY t b i).f.v), .int .i64 (rwY t b i).h]⟩, .int .i64 ((rwY t b i).p : Nat), .int .i64 ((rwY t b i).e : Nat)]⟩) 5 [(0, rd1 top list bad 2), (1, bRo b), (2, rtC (rwY t b i).t.l.length (rwY t b i).t.most 4), (4, gOwn enF ((rwY t b i).t.l ++ (rwY t b i).t.j))] := by
  refine conM_vc (E := EtRr) tk.mixed (calls_envT tRr_ok) (lok_envT _ _) (M := noM) lm_none (Rr_vc b i top list bad t _ _ _ _ _ _) ?_
  obtain ⟨n1, n2, n3⟩ := gq_mk b i 7
  obtain ⟨n4, n5, n6⟩ := gq_mk b i 6
  obtain ⟨n7, n8, n9⟩ := gq_mk b i 4
  have c7 : ((7 : Nat) : Int) = 7 := rfl
  have c6 : ((6 : Nat) : Int) = 6 := rfl
  have c4 : ((4 : Nat) : Int) = 4 := rfl
  rw [c7] at n1 n2 n3
  rw [c6] at n4 n5 n6
  rw [c4] at n7 n8 n9
  obtain ⟨tl, tj, tm⟩ := t
  have pb := bCells_plain b
  have hB : IsB (bRo b) b.length := ⟨b, rfl, rfl⟩
  have hm : maxLen = 9223372036854775807 := by unfold maxLen; rfl
  have sl : smN tl ≤ 65536 := by obtain ⟨o1, _, o3⟩ := ho; simp only at o1 o3; omega
  have hl : tl.length ≤ 16777215 := by have := ok_len tl; omega
  have hT := isTg tl tj (by omega)
  have tv : ∀ k : Nat, txV (bRo b) k = bs (txR b k).v := fun k => (tx_mk b k).2.1
  have te : ∀ k : Nat, txE (bRo b) k = ((txR b k).e : Nat) := fun k => (tx_mk b k).2.2.1
  have tp : ∀ k : Nat, rxP (bRo b) k = (txQ b k : Nat) := fun k => by unfold rxP; rw [sealV_eq, dB_ro]; rfl
  have sz := sz_mk tl tj false (.cells true) tl.length (Nat.le_refl _)
  rw [List.take_length] at sz
  have hTb : IsTb ⟨gC enF (tl ++ tj), false, .cells true⟩ tl.length (smN tl : Nat) := ⟨tl, tj, rfl, rfl, rfl, hl, by omega⟩
  have tm1 : 0 ≤ tm := ho.2.1
  have tm2 : tm ≤ 100000000 := by have := ho.2.2; simp only at this; omega
  simp only [ofNat_eq, toNat_cast, Nat.zero_add, Nat.add_zero, Nat.mul_one, List.drop_zero, bCells_len, bCells_drop, bCells_take, bCells_app, bCells_one, bCells_plain, List.length_replicate, List.length_append, List.length_take, List.length_drop, List.take_length, and_true, true_and, and_self, decide_true, List.length_nil, List.length_cons, Nat.sub_zero, dB_mk, dB_ro, List.take_zero, Nat.mul_one, List.drop_zero, bTake, bRo_eq, n1, n2, n3, n4, n5, n6, n7, n8, n9, tv, te, tp, bCells_len, Nat.zero_add, pb, hB, hT, hTb, sz, z_fbZ, tm1, tm2, (gf_mk tl tj _).1, (gf_mk tl tj _).2.1, (gf_mk tl tj _).2.2, (ad_mk tl tj tm _ _).1, (ad_mk tl tj tm _ _).2.2, fPl, addT_m, Nat.le_refl, and_true, true_and]
  have ec : cellI (bCells b) i = (atB b i : Nat) := bCells_cell hi
  rw [ec]
  refine br_dec (by omega) ⟨by rw [bCells_at hi, ec], ?_⟩
  have bA : (bCells b)[i]? = some (Value.int .u8 (atB b i : Nat)) := by rw [bCells_at hi, ec]
  by_cases c1 : 128 ≤ atB b i
  · have eY : rwY ⟨tl, tj, tm⟩ b i = rwIx ⟨tl, tj, tm⟩ b i := if_pos c1
    refine br_dec (by omega) ⟨by omega, ?_⟩
    have hv : (nuR b i 7).v ≤ 2147483647 := by
      by_cases h1 : (nuR b i 7).e = 0
      · exact (nu_spec b i 7 (by omega) h1).2.2
      · exact nu_bad b i 7 h1
    refine ⟨by unfold I64; omega, ?_⟩
    rw [eY]
    by_cases h1 : (nuR b i 7).e ≠ 0
    · have e : rwIx ⟨tl, tj, tm⟩ b i = ⟨(nuR b i 7).e, nuT b i 7, (getF tl ((nuR b i 7).v : Nat)).1, 1, ⟨tl, tj, tm⟩⟩ := by unfold rwIx; rw [if_pos h1]
      rw [e]
      exact br_nb (by simp; omega) ⟨rfl, rfl, rfl, rfl, rfl, rfl, rfl, rfl⟩
    refine br_b (by simp; omega) ?_
    by_cases h3 : (getF tl ((nuR b i 7).v : Nat)).2 = false
    · have e : rwIx ⟨tl, tj, tm⟩ b i = ⟨5, nuT b i 7, (getF tl ((nuR b i 7).v : Nat)).1, 1, ⟨tl, tj, tm⟩⟩ := by unfold rwIx; rw [if_neg h1, if_pos h3]
      rw [e]
      exact br_b (by rw [h3]; rfl) ⟨rfl, rfl, rfl, rfl, rfl, rfl, rfl, rfl⟩
    · have e : rwIx ⟨tl, tj, tm⟩ b i = ⟨0, nuT b i 7, (getF tl ((nuR b i 7).v : Nat)).1, 1, ⟨tl, tj, tm⟩⟩ := by unfold rwIx; rw [if_neg h1, if_neg h3]
      rw [e]
      exact br_nb (by simpa using h3) ⟨rfl, rfl, rfl, rfl, by simp only; omega, rfl, rfl, rfl⟩
  refine br_nd (by omega) (br_dec (by omega) ⟨bA, ?_⟩)
  by_cases c2 : 64 ≤ atB b i
  · refine br_dec (by omega) ?_
    have eL : rwY ⟨tl, tj, tm⟩ b i = rwLi ⟨tl, tj, tm⟩ b i 6 1 true := by unfold rwY; rw [if_neg c1, if_pos c2]
    refine ⟨by omega, ?_⟩
    by_cases h1 : (nuR b i 6).e ≠ 0
    · skip
      have e : liR tl b i 6 = ⟨(nuR b i 6).e, i, no0⟩ := by unfold liR; rw [if_pos h1]
      have eY : rwY ⟨tl, tj, tm⟩ b i = ⟨(nuR b i 6).e, 0, no0, 0, ⟨tl, tj, tm⟩⟩ := by rw [eL]; unfold rwLi; rw [e]; exact if_pos h1
      rw [eY]
      exact br_b (by simp; omega) ⟨rfl, rfl, rfl, rfl, rfl, rfl, rfl, rfl⟩
    obtain ⟨s1, s2, s3⟩ := nu_spec b i 6 (by omega) (by omega)
    refine br_nb (by simp; omega) ?_
    rw [nuT_p b i 6 (by omega)]
    have hP := isAt b (nuR b i 6).p hb s2
    by_cases h2 : (nuR b i 6).v ≠ 0
    · refine br_dec (by omega) ⟨by unfold I64; omega, ?_⟩
      by_cases h3 : (getF tl ((nuR b i 6).v : Nat)).2 = false
      · skip
        have e : liR tl b i 6 = ⟨5, (nuR b i 6).p, no0⟩ := by unfold liR; rw [if_neg h1, if_pos h2, if_pos h3]
        have eY : rwY ⟨tl, tj, tm⟩ b i = ⟨5, 0, no0, 0, ⟨tl, tj, tm⟩⟩ := by rw [eL]; unfold rwLi; rw [e]; exact if_pos (by simp)
        rw [eY]
        exact br_b (by rw [h3]; rfl) ⟨rfl, rfl, rfl, rfl, rfl, rfl, rfl, rfl⟩
      refine br_nb (by simpa using h3) ⟨hP, ?_⟩
      by_cases h4 : (txR b (nuR b i 6).p).e ≠ 0
      · skip
        have e : liR tl b i 6 = ⟨(txR b (nuR b i 6).p).e, (txR b (nuR b i 6).p).p, no0⟩ := by unfold liR lvR; rw [if_neg h1, if_pos h2, if_neg h3, if_pos h4]
        have eY : rwY ⟨tl, tj, tm⟩ b i = ⟨(txR b (nuR b i 6).p).e, 0, no0, 0, ⟨tl, tj, tm⟩⟩ := by rw [eL]; unfold rwLi; rw [e]; exact if_pos h4
        rw [eY]
        exact br_b (by simp; omega) ⟨rfl, rfl, rfl, rfl, rfl, rfl, rfl, rfl⟩
      · skip
        have e : liR tl b i 6 = ⟨0, (txR b (nuR b i 6).p).p, ⟨(getF tl ((nuR b i 6).v : Nat)).1.n, (txR b (nuR b i 6).p).v⟩⟩ := by unfold liR lvR; rw [if_neg h1, if_pos h2, if_neg h3, if_neg h4]
        have eY : rwY ⟨tl, tj, tm⟩ b i = ⟨0, (txR b (nuR b i 6).p).p, ⟨(getF tl ((nuR b i 6).v : Nat)).1.n, (txR b (nuR b i 6).p).v⟩, 1, if true then addT ⟨tl, tj, tm⟩ ⟨(getF tl ((nuR b i 6).v : Nat)).1.n, (txR b (nuR b i 6).p).v⟩ else ⟨tl, tj, tm⟩⟩ := by rw [eL]; unfold rwLi; rw [e]; exact if_neg (by simp)
        have fb := fb_lit tl b i 6 sl
        rw [e] at fb
        rw [eY, txQ_p _ _ (by omega)]
        refine br_nb (by simp; omega) ⟨by rw [L_bs, L_bs]; simp only at fb; omega, rfl, rfl, rfl, rfl, rfl, rfl, by simp only [if_true, addT_m], rfl⟩
    · refine br_nd (by omega) ⟨hP, ?_⟩
      by_cases h4 : (txR b (nuR b i 6).p).e ≠ 0
      · skip
        have e : liR tl b i 6 = ⟨(txR b (nuR b i 6).p).e, (txR b (nuR b i 6).p).p, no0⟩ := by unfold liR; rw [if_neg h1, if_neg h2, if_pos h4]
        have eY : rwY ⟨tl, tj, tm⟩ b i = ⟨(txR b (nuR b i 6).p).e, 0, no0, 0, ⟨tl, tj, tm⟩⟩ := by rw [eL]; unfold rwLi; rw [e]; exact if_pos h4
        rw [eY]
        exact br_b (by simp; omega) ⟨rfl, rfl, rfl, rfl, rfl, rfl, rfl, rfl⟩
      have hx := tx_ok b (nuR b i 6).p (by omega)
      rw [txQ_p _ _ (by omega)]
      refine br_nb (by simp; omega) ⟨isAt b _ hb hx.2, ?_⟩
      by_cases h5 : (txR b (txR b (nuR b i 6).p).p).e ≠ 0
      · skip
        have e : liR tl b i 6 = ⟨(txR b (txR b (nuR b i 6).p).p).e, (txR b (txR b (nuR b i 6).p).p).p, no0⟩ := by unfold liR lvR; rw [if_neg h1, if_neg h2, if_neg h4, if_pos h5]
        have eY : rwY ⟨tl, tj, tm⟩ b i = ⟨(txR b (txR b (nuR b i 6).p).p).e, 0, no0, 0, ⟨tl, tj, tm⟩⟩ := by rw [eL]; unfold rwLi; rw [e]; exact if_pos h5
        rw [eY]
        exact br_b (by simp; omega) ⟨rfl, rfl, rfl, rfl, rfl, rfl, rfl, rfl⟩
      · skip
        have e : liR tl b i 6 = ⟨0, (txR b (txR b (nuR b i 6).p).p).p, ⟨(txR b (nuR b i 6).p).v, (txR b (txR b (nuR b i 6).p).p).v⟩⟩ := by unfold liR lvR; rw [if_neg h1, if_neg h2, if_neg h4, if_neg h5]
        have eY : rwY ⟨tl, tj, tm⟩ b i = ⟨0, (txR b (txR b (nuR b i 6).p).p).p, ⟨(txR b (nuR b i 6).p).v, (txR b (txR b (nuR b i 6).p).p).v⟩, 1, if true then addT ⟨tl, tj, tm⟩ ⟨(txR b (nuR b i 6).p).v, (txR b (txR b (nuR b i 6).p).p).v⟩ else ⟨tl, tj, tm⟩⟩ := by rw [eL]; unfold rwLi; rw [e]; exact if_neg (by simp)
        have fb := fb_lit tl b i 6 sl
        rw [e] at fb
        rw [eY, txQ_p _ _ (by omega)]
        refine br_nb (by simp; omega) ⟨by rw [L_bs, L_bs]; simp only at fb; omega, rfl, rfl, rfl, rfl, rfl, rfl, by simp only [if_true, addT_m], rfl⟩
  refine br_nd (by omega) (br_dec (by omega) ⟨bA, ?_⟩)
  by_cases c3 : 16 ≤ atB b i
  · refine br_dec (by omega) ?_
    have eL : rwY ⟨tl, tj, tm⟩ b i = rwLi ⟨tl, tj, tm⟩ b i 4 3 false := by unfold rwY; rw [if_neg c1, if_neg c2, if_pos c3]
    refine ⟨by omega, ?_⟩
    by_cases h1 : (nuR b i 4).e ≠ 0
    · skip
      have e : liR tl b i 4 = ⟨(nuR b i 4).e, i, no0⟩ := by unfold liR; rw [if_pos h1]
      have eY : rwY ⟨tl, tj, tm⟩ b i = ⟨(nuR b i 4).e, 0, no0, 0, ⟨tl, tj, tm⟩⟩ := by rw [eL]; unfold rwLi; rw [e]; exact if_pos h1
      rw [eY]
      exact br_b (by simp; omega) ⟨rfl, rfl, rfl, rfl, rfl, rfl, rfl, rfl⟩
    obtain ⟨s1, s2, s3⟩ := nu_spec b i 4 (by omega) (by omega)
    refine br_nb (by simp; omega) ?_
    rw [nuT_p b i 4 (by omega)]
    have hP := isAt b (nuR b i 4).p hb s2
    by_cases h2 : (nuR b i 4).v ≠ 0
    · refine br_dec (by omega) ⟨by unfold I64; omega, ?_⟩
      by_cases h3 : (getF tl ((nuR b i 4).v : Nat)).2 = false
      · skip
        have e : liR tl b i 4 = ⟨5, (nuR b i 4).p, no0⟩ := by unfold liR; rw [if_neg h1, if_pos h2, if_pos h3]
        have eY : rwY ⟨tl, tj, tm⟩ b i = ⟨5, 0, no0, 0, ⟨tl, tj, tm⟩⟩ := by rw [eL]; unfold rwLi; rw [e]; exact if_pos (by simp)
        rw [eY]
        exact br_b (by rw [h3]; rfl) ⟨rfl, rfl, rfl, rfl, rfl, rfl, rfl, rfl⟩
      refine br_nb (by simpa using h3) ⟨hP, ?_⟩
      by_cases h4 : (txR b (nuR b i 4).p).e ≠ 0
      · skip
        have e : liR tl b i 4 = ⟨(txR b (nuR b i 4).p).e, (txR b (nuR b i 4).p).p, no0⟩ := by unfold liR lvR; rw [if_neg h1, if_pos h2, if_neg h3, if_pos h4]
        have eY : rwY ⟨tl, tj, tm⟩ b i = ⟨(txR b (nuR b i 4).p).e, 0, no0, 0, ⟨tl, tj, tm⟩⟩ := by rw [eL]; unfold rwLi; rw [e]; exact if_pos h4
        rw [eY]
        exact br_b (by simp; omega) ⟨rfl, rfl, rfl, rfl, rfl, rfl, rfl, rfl⟩
      · skip
        have e : liR tl b i 4 = ⟨0, (txR b (nuR b i 4).p).p, ⟨(getF tl ((nuR b i 4).v : Nat)).1.n, (txR b (nuR b i 4).p).v⟩⟩ := by unfold liR lvR; rw [if_neg h1, if_pos h2, if_neg h3, if_neg h4]
        have eY : rwY ⟨tl, tj, tm⟩ b i = ⟨0, (txR b (nuR b i 4).p).p, ⟨(getF tl ((nuR b i 4).v : Nat)).1.n, (txR b (nuR b i 4).p).v⟩, 3, if false then addT ⟨tl, tj, tm⟩ ⟨(getF tl ((nuR b i 4).v : Nat)).1.n, (txR b (nuR b i 4).p).v⟩ else ⟨tl, tj, tm⟩⟩ := by rw [eL]; unfold rwLi; rw [e]; exact if_neg (by simp)
        have fb := fb_lit tl b i 4 sl
        rw [e] at fb
        rw [eY, txQ_p _ _ (by omega)]
        exact br_nb (by simp; omega) ⟨rfl, rfl, rfl, rfl, rfl, rfl, rfl, rfl⟩
    · refine br_nd (by omega) ⟨hP, ?_⟩
      by_cases h4 : (txR b (nuR b i 4).p).e ≠ 0
      · skip
        have e : liR tl b i 4 = ⟨(txR b (nuR b i 4).p).e, (txR b (nuR b i 4).p).p, no0⟩ := by unfold liR; rw [if_neg h1, if_neg h2, if_pos h4]
        have eY : rwY ⟨tl, tj, tm⟩ b i = ⟨(txR b (nuR b i 4).p).e, 0, no0, 0, ⟨tl, tj, tm⟩⟩ := by rw [eL]; unfold rwLi; rw [e]; exact if_pos h4
        rw [eY]
        exact br_b (by simp; omega) ⟨rfl, rfl, rfl, rfl, rfl, rfl, rfl, rfl⟩
      have hx := tx_ok b (nuR b i 4).p (by omega)
      rw [txQ_p _ _ (by omega)]
      refine br_nb (by simp; omega) ⟨isAt b _ hb hx.2, ?_⟩
      by_cases h5 : (txR b (txR b (nuR b i 4).p).p).e ≠ 0
      · skip
        have e : liR tl b i 4 = ⟨(txR b (txR b (nuR b i 4).p).p).e, (txR b (txR b (nuR b i 4).p).p).p, no0⟩ := by unfold liR lvR; rw [if_neg h1, if_neg h2, if_neg h4, if_pos h5]
        have eY : rwY ⟨tl, tj, tm⟩ b i = ⟨(txR b (txR b (nuR b i 4).p).p).e, 0, no0, 0, ⟨tl, tj, tm⟩⟩ := by rw [eL]; unfold rwLi; rw [e]; exact if_pos h5
        rw [eY]
        exact br_b (by simp; omega) ⟨rfl, rfl, rfl, rfl, rfl, rfl, rfl, rfl⟩
      · skip
        have e : liR tl b i 4 = ⟨0, (txR b (txR b (nuR b i 4).p).p).p, ⟨(txR b (nuR b i 4).p).v, (txR b (txR b (nuR b i 4).p).p).v⟩⟩ := by unfold liR lvR; rw [if_neg h1, if_neg h2, if_neg h4, if_neg h5]
        have eY : rwY ⟨tl, tj, tm⟩ b i = ⟨0, (txR b (txR b (nuR b i 4).p).p).p, ⟨(txR b (nuR b i 4).p).v, (txR b (txR b (nuR b i 4).p).p).v⟩, 3, if false then addT ⟨tl, tj, tm⟩ ⟨(txR b (nuR b i 4).p).v, (txR b (txR b (nuR b i 4).p).p).v⟩ else ⟨tl, tj, tm⟩⟩ := by rw [eL]; unfold rwLi; rw [e]; exact if_neg (by simp)
        have fb := fb_lit tl b i 4 sl
        rw [e] at fb
        rw [eY, txQ_p _ _ (by omega)]
        exact br_nb (by simp; omega) ⟨rfl, rfl, rfl, rfl, rfl, rfl, rfl, rfl⟩
  · refine br_nd (by omega) ?_
    have eL : rwY ⟨tl, tj, tm⟩ b i = rwLi ⟨tl, tj, tm⟩ b i 4 2 false := by unfold rwY; rw [if_neg c1, if_neg c2, if_neg c3]
    refine ⟨by omega, ?_⟩
    by_cases h1 : (nuR b i 4).e ≠ 0
    · skip
      have e : liR tl b i 4 = ⟨(nuR b i 4).e, i, no0⟩ := by unfold liR; rw [if_pos h1]
      have eY : rwY ⟨tl, tj, tm⟩ b i = ⟨(nuR b i 4).e, 0, no0, 0, ⟨tl, tj, tm⟩⟩ := by rw [eL]; unfold rwLi; rw [e]; exact if_pos h1
      rw [eY]
      exact br_b (by simp; omega) ⟨rfl, rfl, rfl, rfl, rfl, rfl, rfl, rfl⟩
    obtain ⟨s1, s2, s3⟩ := nu_spec b i 4 (by omega) (by omega)
    refine br_nb (by simp; omega) ?_
    rw [nuT_p b i 4 (by omega)]
    have hP := isAt b (nuR b i 4).p hb s2
    by_cases h2 : (nuR b i 4).v ≠ 0
    · refine br_dec (by omega) ⟨by unfold I64; omega, ?_⟩
      by_cases h3 : (getF tl ((nuR b i 4).v : Nat)).2 = false
      · skip
        have e : liR tl b i 4 = ⟨5, (nuR b i 4).p, no0⟩ := by unfold liR; rw [if_neg h1, if_pos h2, if_pos h3]
        have eY : rwY ⟨tl, tj, tm⟩ b i = ⟨5, 0, no0, 0, ⟨tl, tj, tm⟩⟩ := by rw [eL]; unfold rwLi; rw [e]; exact if_pos (by simp)
        rw [eY]
        exact br_b (by rw [h3]; rfl) ⟨rfl, rfl, rfl, rfl, rfl, rfl, rfl, rfl⟩
      refine br_nb (by simpa using h3) ⟨hP, ?_⟩
      by_cases h4 : (txR b (nuR b i 4).p).e ≠ 0
      · skip
        have e : liR tl b i 4 = ⟨(txR b (nuR b i 4).p).e, (txR b (nuR b i 4).p).p, no0⟩ := by unfold liR lvR; rw [if_neg h1, if_pos h2, if_neg h3, if_pos h4]
        have eY : rwY ⟨tl, tj, tm⟩ b i = ⟨(txR b (nuR b i 4).p).e, 0, no0, 0, ⟨tl, tj, tm⟩⟩ := by rw [eL]; unfold rwLi; rw [e]; exact if_pos h4
        rw [eY]
        exact br_b (by simp; omega) ⟨rfl, rfl, rfl, rfl, rfl, rfl, rfl, rfl⟩
      · skip
        have e : liR tl b i 4 = ⟨0, (txR b (nuR b i 4).p).p, ⟨(getF tl ((nuR b i 4).v : Nat)).1.n, (txR b (nuR b i 4).p).v⟩⟩ := by unfold liR lvR; rw [if_neg h1, if_pos h2, if_neg h3, if_neg h4]
        have eY : rwY ⟨tl, tj, tm⟩ b i = ⟨0, (txR b (nuR b i 4).p).p, ⟨(getF tl ((nuR b i 4).v : Nat)).1.n, (txR b (nuR b i 4).p).v⟩, 2, if false then addT ⟨tl, tj, tm⟩ ⟨(getF tl ((nuR b i 4).v : Nat)).1.n, (txR b (nuR b i 4).p).v⟩ else ⟨tl, tj, tm⟩⟩ := by rw [eL]; unfold rwLi; rw [e]; exact if_neg (by simp)
        have fb := fb_lit tl b i 4 sl
        rw [e] at fb
        rw [eY, txQ_p _ _ (by omega)]
        exact br_nb (by simp; omega) ⟨rfl, rfl, rfl, rfl, rfl, rfl, rfl, rfl⟩
    · refine br_nd (by omega) ⟨hP, ?_⟩
      by_cases h4 : (txR b (nuR b i 4).p).e ≠ 0
      · skip
        have e : liR tl b i 4 = ⟨(txR b (nuR b i 4).p).e, (txR b (nuR b i 4).p).p, no0⟩ := by unfold liR; rw [if_neg h1, if_neg h2, if_pos h4]
        have eY : rwY ⟨tl, tj, tm⟩ b i = ⟨(txR b (nuR b i 4).p).e, 0, no0, 0, ⟨tl, tj, tm⟩⟩ := by rw [eL]; unfold rwLi; rw [e]; exact if_pos h4
        rw [eY]
        exact br_b (by simp; omega) ⟨rfl, rfl, rfl, rfl, rfl, rfl, rfl, rfl⟩
      have hx := tx_ok b (nuR b i 4).p (by omega)
      rw [txQ_p _ _ (by omega)]
      refine br_nb (by simp; omega) ⟨isAt b _ hb hx.2, ?_⟩
      by_cases h5 : (txR b (txR b (nuR b i 4).p).p).e ≠ 0
      · skip
        have e : liR tl b i 4 = ⟨(txR b (txR b (nuR b i 4).p).p).e, (txR b (txR b (nuR b i 4).p).p).p, no0⟩ := by unfold liR lvR; rw [if_neg h1, if_neg h2, if_neg h4, if_pos h5]
        have eY : rwY ⟨tl, tj, tm⟩ b i = ⟨(txR b (txR b (nuR b i 4).p).p).e, 0, no0, 0, ⟨tl, tj, tm⟩⟩ := by rw [eL]; unfold rwLi; rw [e]; exact if_pos h5
        rw [eY]
        exact br_b (by simp; omega) ⟨rfl, rfl, rfl, rfl, rfl, rfl, rfl, rfl⟩
      · skip
        have e : liR tl b i 4 = ⟨0, (txR b (txR b (nuR b i 4).p).p).p, ⟨(txR b (nuR b i 4).p).v, (txR b (txR b (nuR b i 4).p).p).v⟩⟩ := by unfold liR lvR; rw [if_neg h1, if_neg h2, if_neg h4, if_neg h5]
        have eY : rwY ⟨tl, tj, tm⟩ b i = ⟨0, (txR b (txR b (nuR b i 4).p).p).p, ⟨(txR b (nuR b i 4).p).v, (txR b (txR b (nuR b i 4).p).p).v⟩, 2, if false then addT ⟨tl, tj, tm⟩ ⟨(txR b (nuR b i 4).p).v, (txR b (txR b (nuR b i 4).p).p).v⟩ else ⟨tl, tj, tm⟩⟩ := by rw [eL]; unfold rwLi; rw [e]; exact if_neg (by simp)
        have fb := fb_lit tl b i 4 sl
        rw [e] at fb
        rw [eY, txQ_p _ _ (by omega)]
        exact br_nb (by simp; omega) ⟨rfl, rfl, rfl, rfl, rfl, rfl, rfl, rfl⟩
end Go.Proofs.Ytellbmbklfbbfaa.up
