/- The law: what a request says besides makes nothing be served that was not. -/
import Derived.Test.YtajfdcijpchjdaaSz9
import Derived.Test.YtajfdcijpchjdaaRows
import Derived.Test.YtajfdcijpchjdaaLmRu
import Derived.Test.YtajfdcijpchjdaaLsay21
set_option maxRecDepth 20000
set_option linter.unusedSimpArgs false
set_option linter.unusedVariables false
namespace Go.Proofs.Ytajfdcijpchjdaa.tk
open Go Go.Ev Go.Sy Go.RowKit Go.Proofs.Ytajfdcijpchjdaa.gl
noncomputable def useR (r1 r2 : Row) (asked came st now : Int) (sh : Nat) : Int := Classical.choose (int_ex (useI (ctlL (decF r1.cells)) (ctlL (decF r2.cells)) (prgL (decF r2.cells)) (ageL (decF r1.cells) asked came now) (lifeL (decF r1.cells) came st sh)))
noncomputable def eLgF : EntM := entC 12 fun a r => match a, r with
  | [.slice (some ⟨0, 0, none⟩) n 2], [r0] => some (IsF r0 n ∧ n ≤ 1048576 ∧ ShR r0, .bool (lgR r0), [])
  | _, _ => none
noncomputable def eRuns : EntM := entC 3 fun a r => match a, r with
  | [], [] => some (True, .bool true, [])
  | _, _ => none
noncomputable def eUs : EntM := entC 14 fun a r => match a, r with
  | [.agg ⟨[.string m, .string s, .string a, .string p, .slice (some ⟨0, 0, none⟩) n0 2, .int .i64 k, .int .i64 st, .slice (some ⟨1, 0, none⟩) n 2, .int .i64 k2, .string body, .int .i64 asked, .int .i64 came]⟩, .agg ⟨[.string qm, .string qs, .string qa, .string qp, .slice (some ⟨2, 0, none⟩) nq 2, .int .i64 qk]⟩, .int .i64 now, .float .f64 sh], [r0, r, rq] => some (IsF r0 n0 ∧ IsF r n ∧ IsF rq nq ∧ n0 ≤ maxLen ∧ n ≤ maxLen ∧ nq ≤ maxLen ∧ BgR r ∧ BgR rq, .int .i64 (useR r rq asked came st now sh), [])
  | _, _ => none
noncomputable def eAl2 : EntM := entC 18 fun a r => match a, r with
  | [.slice (some ⟨0, 0, none⟩) n 2, .string s], [r0] => some (IsF r0 n ∧ n ≤ maxLen ∧ alB r0 s ≤ 16777000, .tuple #[.string (alV r0 s), .int .i64 (alN r0 s)], [])
  | _, _ => none
noncomputable def eSp2 : EntM := entC 19 fun a r => match a, r with
  | [.string s], [] => some ((L s).length ≤ 16777000, .tuple #[.slice (some ⟨0, 0, none⟩) (elN s) 1, .bool (okS s)], [⟨elC s, false, .cells true⟩])
  | _, _ => none
def dgI (n : Int) : ByteArray := bs (dgL n.toNat)
noncomputable def eDg : EntM := entC 20 fun a r => match a, r with
  | [.int .i64 n], [] => some (0 ≤ n ∧ n ≤ 1000000000000, .string (dgI n), [])
  | _, _ => none
noncomputable def eW0 : EntM := entC 16 fun a r => match a, r with
  | [.int .i64 n, .int .i64 lo, .int .i64 hi], [] => some (inside n 0 4 = 0 ∧ lo = 0 ∧ hi = 4 ∧ I64 n, .int .i64 0, [])
  | _, _ => none
noncomputable def eW1 : EntM := entC 16 fun a r => match a, r with
  | [.int .i64 n, .int .i64 lo, .int .i64 hi], [] => some (inside n 0 4 = 1 ∧ lo = 0 ∧ hi = 4 ∧ I64 n, .int .i64 1, [])
  | _, _ => none
noncomputable def eW2 : EntM := entC 16 fun a r => match a, r with
  | [.int .i64 n, .int .i64 lo, .int .i64 hi], [] => some (inside n 0 4 = 2 ∧ lo = 0 ∧ hi = 4 ∧ I64 n, .int .i64 2, [])
  | _, _ => none
noncomputable def eW3 : EntM := entC 16 fun a r => match a, r with
  | [.int .i64 n, .int .i64 lo, .int .i64 hi], [] => some (inside n 0 4 = 3 ∧ lo = 0 ∧ hi = 4 ∧ I64 n, .int .i64 3, [])
  | _, _ => none
noncomputable def eW4 : EntM := entC 16 fun a r => match a, r with
  | [.int .i64 n, .int .i64 lo, .int .i64 hi], [] => some (inside n 0 4 = 4 ∧ lo = 0 ∧ hi = 4 ∧ I64 n, .int .i64 4, [])
  | _, _ => none
noncomputable def tS0 : List EntM := [eLgF, eRuns, eUs, eAl2, eSp2, eCoR, eDg, eW0]
noncomputable abbrev EtS0 : Env := envT Try.prog tS0
noncomputable def tS1 : List EntM := [eLgF, eRuns, eUs, eAl2, eSp2, eCoR, eDg, eW1]
noncomputable abbrev EtS1 : Env := envT Try.prog tS1
noncomputable def tS2 : List EntM := [eLgF, eRuns, eUs, eAl2, eSp2, eCoR, eDg, eW2]
noncomputable abbrev EtS2 : Env := envT Try.prog tS2
noncomputable def tS3 : List EntM := [eLgF, eRuns, eUs, eAl2, eSp2, eCoR, eDg, eW3]
noncomputable abbrev EtS3 : Env := envT Try.prog tS3
noncomputable def tS4 : List EntM := [eLgF, eRuns, eUs, eAl2, eSp2, eCoR, eDg, eW4]
noncomputable abbrev EtS4 : Env := envT Try.prog tS4
theorem S_vc0 (x : En12) (y : Rq6) (d l q : List Fl) (now : Int) (sh : Nat) (wh : Int) (k : Nat) : mcall EtS0 noM 60 6 [.agg ⟨enT x 0 d.length 1 l.length⟩, .agg ⟨rqT y 2 q.length⟩, .int .i64 now, .float .f64 sh, .int .i64 wh, .int .u16 (k : Nat)] ⟨mkR (nums 0 [gRo enF d, gRo enF l, gRo enF q]), 3⟩ (retIs 3 (.bool true) [gRo enF d, gRo enF l, gRo enF q]) =
  let z1 := (((True /\ (True /\ (True /\ True)))) /\ ((true = true) /\ ((Eq (α := List Value) (gC enF d) (gC enF d)) /\ ((Plain (gC enF d)) /\ ((Eq (α := List Value) (gC enF
  l) (gC enF l)) /\ ((Plain (gC enF l)) /\ ((Eq (α := List Value) (gC enF q) (gC enF q)) /\ ((Plain (gC enF q)) /\ True)))))))); let z2 := (Array.mk [Value.string x.1,
  Value.string x.2, Value.string x.3, Value.string x.4, Value.slice (some (Addr.mk 0 0 none)) (List.length d) 2, Value.int IntKind.i64 x.5, Value.int IntKind.i64 x.6,
  Value.slice (some (Addr.mk 1 0 none)) (List.length l) 2, Value.int IntKind.i64 x.7, Value.string x.8, Value.int IntKind.i64 x.9, Value.int IntKind.i64 x.10]); let z7 :=
  (ByteArray.mk #[99, 97, 99, 104, 101, 45, 99, 111, 110, 116, 114, 111, 108]); let z11 := (ByteArray.mk #[110, 111, 45, 99, 97, 99, 104, 101]); let z3 := (List.take ((0 +
  List.length q) * 2) (List.drop 0 ([] ++ List.take (List.length q * 2) (List.drop 0 (gC enF q)))) ++ [Value.string z7, Value.string z11]); let z4 := (Array.mk [Value.string
  y.1, Value.string y.2, Value.string y.3, Value.string y.4, Value.slice (some (Addr.mk 24 0 none)) (0 + List.length q + 1) 2, Value.int IntKind.i64 y.5]); let z5 := (True
  /\ (True /\ (True /\ (True /\ ((0 + List.length d * 2 <= List.length (gC enF d) /\ Plain (List.take (List.length d * 2) (List.drop 0 (gC enF d)))) /\ (True /\ (True /\ ((0
  + List.length l * 2 <= List.length (gC enF l) /\ Plain (List.take (List.length l * 2) (List.drop 0 (gC enF l)))) /\ (True /\ (True /\ (True /\ (True /\ True))))))))))));
  let z6 := (0 + List.length q * 2 <= List.length (gC enF q) /\ Plain (List.take (List.length q * 2) (List.drop 0 (gC enF q)))); let z8 := (Row.mk (List.take ((0 +
  List.length q + 1) * 2) (List.drop 0 z3)) true (Ob.cells true)); let z9 := (Array.mk [Value.string y.1, Value.string y.2, Value.string y.3, Value.string y.4, Value.slice
  (some (Addr.mk 2 0 none)) (List.length q) 2, Value.int IntKind.i64 y.5]); let z10 := (((True /\ True) /\ (True /\ (True /\ ((0 : Int) <= IntKind.wrap IntKind.i64 (↑k :
  Int) /\ IntKind.wrap IntKind.i64 (↑k : Int) <= (1000000000000 : Int)))))); let z12 := (Array.toList (ByteArray.data (dgI (IntKind.wrap IntKind.i64 (↑k : Int))))); (((((0 +
  List.length d * 2 <= List.length (gC enF d) /\ Plain (List.take (List.length d * 2) (List.drop 0 (gC enF d)))) /\ True) /\ ((True /\ True) /\ (True /\ (IsF (rT d)
  (List.length d) /\ (List.length d <= 1048576 /\ ShR (rT d))))))) /\ (br (lgR (rT d)) (((((0 + List.length l * 2 <= List.length (gC enF l) /\ Plain (List.take (List.length
  l * 2) (List.drop 0 (gC enF l)))) /\ True) /\ ((True /\ True) /\ (True /\ (IsF (rT l) (List.length l) /\ (List.length l <= 1048576 /\ ShR (rT l))))))) /\ (br (lgR (rT l))
  (br (!decide (Int.ofNat (List.length x.8.1.1) <= (2000 : Int))) z1 ((((z6 /\ True) /\ ((True /\ True) /\ (True /\ (IsF (rT q) (List.length q) /\ (List.length q <= 1048576
  /\ ShR (rT q))))))) /\ (br (!lgR (rT q)) z1 ((((z6 /\ (True /\ True)) /\ ((True /\ True) /\ (True /\ (IsF (rT q) (List.length q) /\ (List.length q <= 9223372036854775807
  /\ alB (rT q) z7 <= 16777000)))))) /\ ((((True /\ True) /\ (True /\ ((Plain (elC (alV (rT q) z7)) /\ True) /\ List.length (L (alV (rT q) z7)) <= 16777000)))) /\ (br (!okS
  (alV (rT q) z7)) z1 (br (alN (rT q) z7 == (0 : Int)) z1 (z10 /\ (br (decide (8 + List.length z12 <= 9223372036854775807)) (z10 /\ (br (decide (10 + List.length z12 <=
  9223372036854775807)) ((((True /\ (True /\ (True /\ True))) /\ (True /\ (True /\ (inside wh (0 : Int) (4 : Int) = (0 : Int) /\ ((0 : Int) = (0 : Int) /\ ((4 : Int) = (4 :
  Int) /\ I64 wh))))))) /\ (br (decide (0 + List.length q * 2 <= List.length (gC enF q))) (br (allOne (List.take (List.length q * 2) (List.drop 0 (gC enF q)))) (br (decide
  (0 + List.length q <= 16777216)) (br (decide (0 + List.length q + 1 <= 16777216)) (br (decide (0 + (0 + List.length q) * 2 <= List.length ([] ++ List.take (List.length q *
  2) (List.drop 0 (gC enF q))))) ((Value.slice (some (Addr.mk 2 0 none)) (List.length q) 2 = Value.slice (some (Addr.mk 2 0 none)) (List.length q) 2) /\ ((Value.string z11 =
  Value.string z11) /\ ((Value.string z11 = Value.string z11) /\ ((((z5 /\ ((True /\ (True /\ (True /\ (True /\ (z6 /\ (True /\ True)))))) /\ (True /\ (True /\ True)))) /\
  ((True /\ (True /\ (True /\ True))) /\ (True /\ (IsF (rT d) (List.length d) /\ (IsF (rT l) (List.length l) /\ (IsF (rT q) (List.length q) /\ (List.length d <=
  9223372036854775807 /\ (List.length l <= 9223372036854775807 /\ (List.length q <= 9223372036854775807 /\ (BgR (rT l) /\ BgR (rT q)))))))))))) /\ ((((z5 /\ ((True /\ (True
  /\ (True /\ (True /\ ((0 + (0 + List.length q + 1) * 2 <= List.length z3 /\ Plain (List.take ((0 + List.length q + 1) * 2) (List.drop 0 z3))) /\ (True /\ True)))))) /\
  (True /\ (True /\ True)))) /\ ((True /\ (True /\ (True /\ True))) /\ (True /\ (IsF (rT d) (List.length d) /\ (IsF (rT l) (List.length l) /\ (IsF z8 (0 + List.length q + 1)
  /\ (List.length d <= 9223372036854775807 /\ (List.length l <= 9223372036854775807 /\ (0 + List.length q + 1 <= 9223372036854775807 /\ (BgR (rT l) /\ BgR z8))))))))))) /\
  ((Value.agg z2 = Value.agg z2) /\ ((Value.agg z9 = Value.agg z9) /\ ((Value.agg z2 = Value.agg z2) /\ ((Value.agg z2 = Value.agg z2) /\ ((Value.agg z4 = Value.agg z4) /\
  ((Value.agg z4 = Value.agg z4) /\ ((((z6 /\ True) /\ ((True /\ True) /\ (True /\ (IsF (rT q) (List.length q) /\ (List.length q <= 9223372036854775807 /\ BgR (rT q)))))))
  /\ (br (useR (rT l) z8 x.9 x.10 x.6 now sh != (1 : Int)) z1 (br (useR (rT l) (rT q) x.9 x.10 x.6 now sh == (1 : Int)) z1 ((true = false) /\ ((Eq (α := List Value) (gC enF
  d) (gC enF d)) /\ ((Plain (gC enF d)) /\ ((Eq (α := List Value) (gC enF l) (gC enF l)) /\ ((Plain (gC enF l)) /\ ((Eq (α := List Value) (gC enF q) (gC enF q)) /\ ((Plain
  (gC enF q)) /\ True))))))))))))))))))))) False) False) False) False) False)) False)) False))))))))) z1)) z1)) := by kernel_rfl
theorem S_vc1 (x : En12) (y : Rq6) (d l q : List Fl) (now : Int) (sh : Nat) (wh : Int) (k : Nat) : mcall EtS1 noM 60 6 [.agg ⟨enT x 0 d.length 1 l.length⟩, .agg ⟨rqT y 2 q.length⟩, .int .i64 now, .float .f64 sh, .int .i64 wh, .int .u16 (k : Nat)] ⟨mkR (nums 0 [gRo enF d, gRo enF l, gRo enF q]), 3⟩ (retIs 3 (.bool true) [gRo enF d, gRo enF l, gRo enF q]) =
  let z1 := (((True /\ (True /\ (True /\ True)))) /\ ((true = true) /\ ((Eq (α := List Value) (gC enF d) (gC enF d)) /\ ((Plain (gC enF d)) /\ ((Eq (α := List Value) (gC enF
  l) (gC enF l)) /\ ((Plain (gC enF l)) /\ ((Eq (α := List Value) (gC enF q) (gC enF q)) /\ ((Plain (gC enF q)) /\ True)))))))); let z2 := (Array.mk [Value.string x.1,
  Value.string x.2, Value.string x.3, Value.string x.4, Value.slice (some (Addr.mk 0 0 none)) (List.length d) 2, Value.int IntKind.i64 x.5, Value.int IntKind.i64 x.6,
  Value.slice (some (Addr.mk 1 0 none)) (List.length l) 2, Value.int IntKind.i64 x.7, Value.string x.8, Value.int IntKind.i64 x.9, Value.int IntKind.i64 x.10]); let z7 :=
  (ByteArray.mk #[99, 97, 99, 104, 101, 45, 99, 111, 110, 116, 114, 111, 108]); let z8 := (ByteArray.mk #[109, 97, 120, 45, 97, 103, 101, 61] ++ dgI (IntKind.wrap
  IntKind.i64 (↑k : Int))); let z3 := (List.take ((0 + List.length q) * 2) (List.drop 0 ([] ++ List.take (List.length q * 2) (List.drop 0 (gC enF q)))) ++ [Value.string z7,
  Value.string z8]); let z4 := (Array.mk [Value.string y.1, Value.string y.2, Value.string y.3, Value.string y.4, Value.slice (some (Addr.mk 24 0 none)) (0 + List.length q +
  1) 2, Value.int IntKind.i64 y.5]); let z5 := (True /\ (True /\ (True /\ (True /\ ((0 + List.length d * 2 <= List.length (gC enF d) /\ Plain (List.take (List.length d * 2)
  (List.drop 0 (gC enF d)))) /\ (True /\ (True /\ ((0 + List.length l * 2 <= List.length (gC enF l) /\ Plain (List.take (List.length l * 2) (List.drop 0 (gC enF l)))) /\
  (True /\ (True /\ (True /\ (True /\ True)))))))))))); let z6 := (0 + List.length q * 2 <= List.length (gC enF q) /\ Plain (List.take (List.length q * 2) (List.drop 0 (gC
  enF q)))); let z9 := (Row.mk (List.take ((0 + List.length q + 1) * 2) (List.drop 0 z3)) true (Ob.cells true)); let z10 := (Array.mk [Value.string y.1, Value.string y.2,
  Value.string y.3, Value.string y.4, Value.slice (some (Addr.mk 2 0 none)) (List.length q) 2, Value.int IntKind.i64 y.5]); let z11 := (((True /\ True) /\ (True /\ (True /\
  ((0 : Int) <= IntKind.wrap IntKind.i64 (↑k : Int) /\ IntKind.wrap IntKind.i64 (↑k : Int) <= (1000000000000 : Int)))))); let z12 := (Array.toList (ByteArray.data (dgI
  (IntKind.wrap IntKind.i64 (↑k : Int))))); (((((0 + List.length d * 2 <= List.length (gC enF d) /\ Plain (List.take (List.length d * 2) (List.drop 0 (gC enF d)))) /\ True)
  /\ ((True /\ True) /\ (True /\ (IsF (rT d) (List.length d) /\ (List.length d <= 1048576 /\ ShR (rT d))))))) /\ (br (lgR (rT d)) (((((0 + List.length l * 2 <= List.length
  (gC enF l) /\ Plain (List.take (List.length l * 2) (List.drop 0 (gC enF l)))) /\ True) /\ ((True /\ True) /\ (True /\ (IsF (rT l) (List.length l) /\ (List.length l <=
  1048576 /\ ShR (rT l))))))) /\ (br (lgR (rT l)) (br (!decide (Int.ofNat (List.length x.8.1.1) <= (2000 : Int))) z1 ((((z6 /\ True) /\ ((True /\ True) /\ (True /\ (IsF (rT
  q) (List.length q) /\ (List.length q <= 1048576 /\ ShR (rT q))))))) /\ (br (!lgR (rT q)) z1 ((((z6 /\ (True /\ True)) /\ ((True /\ True) /\ (True /\ (IsF (rT q)
  (List.length q) /\ (List.length q <= 9223372036854775807 /\ alB (rT q) z7 <= 16777000)))))) /\ ((((True /\ True) /\ (True /\ ((Plain (elC (alV (rT q) z7)) /\ True) /\
  List.length (L (alV (rT q) z7)) <= 16777000)))) /\ (br (!okS (alV (rT q) z7)) z1 (br (alN (rT q) z7 == (0 : Int)) z1 (z11 /\ (br (decide (8 + List.length z12 <=
  9223372036854775807)) (z11 /\ (br (decide (10 + List.length z12 <= 9223372036854775807)) ((((True /\ (True /\ (True /\ True))) /\ (True /\ (True /\ (inside wh (0 : Int) (4
  : Int) = (1 : Int) /\ ((0 : Int) = (0 : Int) /\ ((4 : Int) = (4 : Int) /\ I64 wh))))))) /\ (br (decide (0 + List.length q * 2 <= List.length (gC enF q))) (br (allOne
  (List.take (List.length q * 2) (List.drop 0 (gC enF q)))) (br (decide (0 + List.length q <= 16777216)) (br (decide (0 + List.length q + 1 <= 16777216)) (br (decide (0 + (0
  + List.length q) * 2 <= List.length ([] ++ List.take (List.length q * 2) (List.drop 0 (gC enF q))))) ((Value.slice (some (Addr.mk 2 0 none)) (List.length q) 2 =
  Value.slice (some (Addr.mk 2 0 none)) (List.length q) 2) /\ ((Value.string z8 = Value.string z8) /\ ((Value.string z8 = Value.string z8) /\ ((((z5 /\ ((True /\ (True /\
  (True /\ (True /\ (z6 /\ (True /\ True)))))) /\ (True /\ (True /\ True)))) /\ ((True /\ (True /\ (True /\ True))) /\ (True /\ (IsF (rT d) (List.length d) /\ (IsF (rT l)
  (List.length l) /\ (IsF (rT q) (List.length q) /\ (List.length d <= 9223372036854775807 /\ (List.length l <= 9223372036854775807 /\ (List.length q <= 9223372036854775807
  /\ (BgR (rT l) /\ BgR (rT q)))))))))))) /\ ((((z5 /\ ((True /\ (True /\ (True /\ (True /\ ((0 + (0 + List.length q + 1) * 2 <= List.length z3 /\ Plain (List.take ((0 +
  List.length q + 1) * 2) (List.drop 0 z3))) /\ (True /\ True)))))) /\ (True /\ (True /\ True)))) /\ ((True /\ (True /\ (True /\ True))) /\ (True /\ (IsF (rT d) (List.length
  d) /\ (IsF (rT l) (List.length l) /\ (IsF z9 (0 + List.length q + 1) /\ (List.length d <= 9223372036854775807 /\ (List.length l <= 9223372036854775807 /\ (0 + List.length
  q + 1 <= 9223372036854775807 /\ (BgR (rT l) /\ BgR z9))))))))))) /\ ((Value.agg z2 = Value.agg z2) /\ ((Value.agg z10 = Value.agg z10) /\ ((Value.agg z2 = Value.agg z2) /\
  ((Value.agg z2 = Value.agg z2) /\ ((Value.agg z4 = Value.agg z4) /\ ((Value.agg z4 = Value.agg z4) /\ ((((z6 /\ True) /\ ((True /\ True) /\ (True /\ (IsF (rT q)
  (List.length q) /\ (List.length q <= 9223372036854775807 /\ BgR (rT q))))))) /\ (br (useR (rT l) z9 x.9 x.10 x.6 now sh != (1 : Int)) z1 (br (useR (rT l) (rT q) x.9 x.10
  x.6 now sh == (1 : Int)) z1 ((true = false) /\ ((Eq (α := List Value) (gC enF d) (gC enF d)) /\ ((Plain (gC enF d)) /\ ((Eq (α := List Value) (gC enF l) (gC enF l)) /\
  ((Plain (gC enF l)) /\ ((Eq (α := List Value) (gC enF q) (gC enF q)) /\ ((Plain (gC enF q)) /\ True))))))))))))))))))))) False) False) False) False) False)) False))
  False))))))))) z1)) z1)) := by kernel_rfl
theorem S_vc2 (x : En12) (y : Rq6) (d l q : List Fl) (now : Int) (sh : Nat) (wh : Int) (k : Nat) : mcall EtS2 noM 60 6 [.agg ⟨enT x 0 d.length 1 l.length⟩, .agg ⟨rqT y 2 q.length⟩, .int .i64 now, .float .f64 sh, .int .i64 wh, .int .u16 (k : Nat)] ⟨mkR (nums 0 [gRo enF d, gRo enF l, gRo enF q]), 3⟩ (retIs 3 (.bool true) [gRo enF d, gRo enF l, gRo enF q]) =
  let z1 := (((True /\ (True /\ (True /\ True)))) /\ ((true = true) /\ ((Eq (α := List Value) (gC enF d) (gC enF d)) /\ ((Plain (gC enF d)) /\ ((Eq (α := List Value) (gC enF
  l) (gC enF l)) /\ ((Plain (gC enF l)) /\ ((Eq (α := List Value) (gC enF q) (gC enF q)) /\ ((Plain (gC enF q)) /\ True)))))))); let z2 := (Array.mk [Value.string x.1,
  Value.string x.2, Value.string x.3, Value.string x.4, Value.slice (some (Addr.mk 0 0 none)) (List.length d) 2, Value.int IntKind.i64 x.5, Value.int IntKind.i64 x.6,
  Value.slice (some (Addr.mk 1 0 none)) (List.length l) 2, Value.int IntKind.i64 x.7, Value.string x.8, Value.int IntKind.i64 x.9, Value.int IntKind.i64 x.10]); let z8 :=
  (ByteArray.mk #[99, 97, 99, 104, 101, 45, 99, 111, 110, 116, 114, 111, 108]); let z7 := (ByteArray.mk #[109, 105, 110, 45, 102, 114, 101, 115, 104, 61] ++ dgI
  (IntKind.wrap IntKind.i64 (↑k : Int))); let z3 := (List.take ((0 + List.length q) * 2) (List.drop 0 ([] ++ List.take (List.length q * 2) (List.drop 0 (gC enF q)))) ++
  [Value.string z8, Value.string z7]); let z4 := (Array.mk [Value.string y.1, Value.string y.2, Value.string y.3, Value.string y.4, Value.slice (some (Addr.mk 24 0 none)) (0
  + List.length q + 1) 2, Value.int IntKind.i64 y.5]); let z5 := (True /\ (True /\ (True /\ (True /\ ((0 + List.length d * 2 <= List.length (gC enF d) /\ Plain (List.take
  (List.length d * 2) (List.drop 0 (gC enF d)))) /\ (True /\ (True /\ ((0 + List.length l * 2 <= List.length (gC enF l) /\ Plain (List.take (List.length l * 2) (List.drop 0
  (gC enF l)))) /\ (True /\ (True /\ (True /\ (True /\ True)))))))))))); let z6 := (0 + List.length q * 2 <= List.length (gC enF q) /\ Plain (List.take (List.length q * 2)
  (List.drop 0 (gC enF q)))); let z9 := (Row.mk (List.take ((0 + List.length q + 1) * 2) (List.drop 0 z3)) true (Ob.cells true)); let z10 := (Array.mk [Value.string y.1,
  Value.string y.2, Value.string y.3, Value.string y.4, Value.slice (some (Addr.mk 2 0 none)) (List.length q) 2, Value.int IntKind.i64 y.5]); let z11 := (((True /\ True) /\
  (True /\ (True /\ ((0 : Int) <= IntKind.wrap IntKind.i64 (↑k : Int) /\ IntKind.wrap IntKind.i64 (↑k : Int) <= (1000000000000 : Int)))))); let z12 := (Array.toList
  (ByteArray.data (dgI (IntKind.wrap IntKind.i64 (↑k : Int))))); (((((0 + List.length d * 2 <= List.length (gC enF d) /\ Plain (List.take (List.length d * 2) (List.drop 0
  (gC enF d)))) /\ True) /\ ((True /\ True) /\ (True /\ (IsF (rT d) (List.length d) /\ (List.length d <= 1048576 /\ ShR (rT d))))))) /\ (br (lgR (rT d)) (((((0 + List.length
  l * 2 <= List.length (gC enF l) /\ Plain (List.take (List.length l * 2) (List.drop 0 (gC enF l)))) /\ True) /\ ((True /\ True) /\ (True /\ (IsF (rT l) (List.length l) /\
  (List.length l <= 1048576 /\ ShR (rT l))))))) /\ (br (lgR (rT l)) (br (!decide (Int.ofNat (List.length x.8.1.1) <= (2000 : Int))) z1 ((((z6 /\ True) /\ ((True /\ True) /\
  (True /\ (IsF (rT q) (List.length q) /\ (List.length q <= 1048576 /\ ShR (rT q))))))) /\ (br (!lgR (rT q)) z1 ((((z6 /\ (True /\ True)) /\ ((True /\ True) /\ (True /\ (IsF
  (rT q) (List.length q) /\ (List.length q <= 9223372036854775807 /\ alB (rT q) z8 <= 16777000)))))) /\ ((((True /\ True) /\ (True /\ ((Plain (elC (alV (rT q) z8)) /\ True)
  /\ List.length (L (alV (rT q) z8)) <= 16777000)))) /\ (br (!okS (alV (rT q) z8)) z1 (br (alN (rT q) z8 == (0 : Int)) z1 (z11 /\ (br (decide (8 + List.length z12 <=
  9223372036854775807)) (z11 /\ (br (decide (10 + List.length z12 <= 9223372036854775807)) ((((True /\ (True /\ (True /\ True))) /\ (True /\ (True /\ (inside wh (0 : Int) (4
  : Int) = (2 : Int) /\ ((0 : Int) = (0 : Int) /\ ((4 : Int) = (4 : Int) /\ I64 wh))))))) /\ (br (decide (0 + List.length q * 2 <= List.length (gC enF q))) (br (allOne
  (List.take (List.length q * 2) (List.drop 0 (gC enF q)))) (br (decide (0 + List.length q <= 16777216)) (br (decide (0 + List.length q + 1 <= 16777216)) (br (decide (0 + (0
  + List.length q) * 2 <= List.length ([] ++ List.take (List.length q * 2) (List.drop 0 (gC enF q))))) ((Value.slice (some (Addr.mk 2 0 none)) (List.length q) 2 =
  Value.slice (some (Addr.mk 2 0 none)) (List.length q) 2) /\ ((Value.string z7 = Value.string z7) /\ ((Value.string z7 = Value.string z7) /\ ((((z5 /\ ((True /\ (True /\
  (True /\ (True /\ (z6 /\ (True /\ True)))))) /\ (True /\ (True /\ True)))) /\ ((True /\ (True /\ (True /\ True))) /\ (True /\ (IsF (rT d) (List.length d) /\ (IsF (rT l)
  (List.length l) /\ (IsF (rT q) (List.length q) /\ (List.length d <= 9223372036854775807 /\ (List.length l <= 9223372036854775807 /\ (List.length q <= 9223372036854775807
  /\ (BgR (rT l) /\ BgR (rT q)))))))))))) /\ ((((z5 /\ ((True /\ (True /\ (True /\ (True /\ ((0 + (0 + List.length q + 1) * 2 <= List.length z3 /\ Plain (List.take ((0 +
  List.length q + 1) * 2) (List.drop 0 z3))) /\ (True /\ True)))))) /\ (True /\ (True /\ True)))) /\ ((True /\ (True /\ (True /\ True))) /\ (True /\ (IsF (rT d) (List.length
  d) /\ (IsF (rT l) (List.length l) /\ (IsF z9 (0 + List.length q + 1) /\ (List.length d <= 9223372036854775807 /\ (List.length l <= 9223372036854775807 /\ (0 + List.length
  q + 1 <= 9223372036854775807 /\ (BgR (rT l) /\ BgR z9))))))))))) /\ ((Value.agg z2 = Value.agg z2) /\ ((Value.agg z10 = Value.agg z10) /\ ((Value.agg z2 = Value.agg z2) /\
  ((Value.agg z2 = Value.agg z2) /\ ((Value.agg z4 = Value.agg z4) /\ ((Value.agg z4 = Value.agg z4) /\ ((((z6 /\ True) /\ ((True /\ True) /\ (True /\ (IsF (rT q)
  (List.length q) /\ (List.length q <= 9223372036854775807 /\ BgR (rT q))))))) /\ (br (useR (rT l) z9 x.9 x.10 x.6 now sh != (1 : Int)) z1 (br (useR (rT l) (rT q) x.9 x.10
  x.6 now sh == (1 : Int)) z1 (br (decide ((ctR (rT q)).10 ≥ (0 : Int))) z1 ((true = false) /\ ((Eq (α := List Value) (gC enF d) (gC enF d)) /\ ((Plain (gC enF d)) /\ ((Eq
  (α := List Value) (gC enF l) (gC enF l)) /\ ((Plain (gC enF l)) /\ ((Eq (α := List Value) (gC enF q) (gC enF q)) /\ ((Plain (gC enF q)) /\ True))))))))))))))))))))))
  False) False) False) False) False)) False)) False))))))))) z1)) z1)) := by kernel_rfl
theorem S_vc3 (x : En12) (y : Rq6) (d l q : List Fl) (now : Int) (sh : Nat) (wh : Int) (k : Nat) : mcall EtS3 noM 60 6 [.agg ⟨enT x 0 d.length 1 l.length⟩, .agg ⟨rqT y 2 q.length⟩, .int .i64 now, .float .f64 sh, .int .i64 wh, .int .u16 (k : Nat)] ⟨mkR (nums 0 [gRo enF d, gRo enF l, gRo enF q]), 3⟩ (retIs 3 (.bool true) [gRo enF d, gRo enF l, gRo enF q]) =
  let z1 := (((True /\ (True /\ (True /\ True)))) /\ ((true = true) /\ ((Eq (α := List Value) (gC enF d) (gC enF d)) /\ ((Plain (gC enF d)) /\ ((Eq (α := List Value) (gC enF
  l) (gC enF l)) /\ ((Plain (gC enF l)) /\ ((Eq (α := List Value) (gC enF q) (gC enF q)) /\ ((Plain (gC enF q)) /\ True)))))))); let z2 := (Array.mk [Value.string x.1,
  Value.string x.2, Value.string x.3, Value.string x.4, Value.slice (some (Addr.mk 0 0 none)) (List.length d) 2, Value.int IntKind.i64 x.5, Value.int IntKind.i64 x.6,
  Value.slice (some (Addr.mk 1 0 none)) (List.length l) 2, Value.int IntKind.i64 x.7, Value.string x.8, Value.int IntKind.i64 x.9, Value.int IntKind.i64 x.10]); let z7 :=
  (ByteArray.mk #[99, 97, 99, 104, 101, 45, 99, 111, 110, 116, 114, 111, 108]); let z8 := (ByteArray.mk #[111, 110, 108, 121, 45, 105, 102, 45, 99, 97, 99, 104, 101, 100]);
  let z3 := (List.take ((0 + List.length q) * 2) (List.drop 0 ([] ++ List.take (List.length q * 2) (List.drop 0 (gC enF q)))) ++ [Value.string z7, Value.string z8]); let z4
  := (Array.mk [Value.string y.1, Value.string y.2, Value.string y.3, Value.string y.4, Value.slice (some (Addr.mk 24 0 none)) (0 + List.length q + 1) 2, Value.int
  IntKind.i64 y.5]); let z5 := (True /\ (True /\ (True /\ (True /\ ((0 + List.length d * 2 <= List.length (gC enF d) /\ Plain (List.take (List.length d * 2) (List.drop 0 (gC
  enF d)))) /\ (True /\ (True /\ ((0 + List.length l * 2 <= List.length (gC enF l) /\ Plain (List.take (List.length l * 2) (List.drop 0 (gC enF l)))) /\ (True /\ (True /\
  (True /\ (True /\ True)))))))))))); let z6 := (0 + List.length q * 2 <= List.length (gC enF q) /\ Plain (List.take (List.length q * 2) (List.drop 0 (gC enF q)))); let z9
  := (Row.mk (List.take ((0 + List.length q + 1) * 2) (List.drop 0 z3)) true (Ob.cells true)); let z10 := (Array.mk [Value.string y.1, Value.string y.2, Value.string y.3,
  Value.string y.4, Value.slice (some (Addr.mk 2 0 none)) (List.length q) 2, Value.int IntKind.i64 y.5]); let z11 := (((True /\ True) /\ (True /\ (True /\ ((0 : Int) <=
  IntKind.wrap IntKind.i64 (↑k : Int) /\ IntKind.wrap IntKind.i64 (↑k : Int) <= (1000000000000 : Int)))))); let z12 := (Array.toList (ByteArray.data (dgI (IntKind.wrap
  IntKind.i64 (↑k : Int))))); (((((0 + List.length d * 2 <= List.length (gC enF d) /\ Plain (List.take (List.length d * 2) (List.drop 0 (gC enF d)))) /\ True) /\ ((True /\
  True) /\ (True /\ (IsF (rT d) (List.length d) /\ (List.length d <= 1048576 /\ ShR (rT d))))))) /\ (br (lgR (rT d)) (((((0 + List.length l * 2 <= List.length (gC enF l) /\
  Plain (List.take (List.length l * 2) (List.drop 0 (gC enF l)))) /\ True) /\ ((True /\ True) /\ (True /\ (IsF (rT l) (List.length l) /\ (List.length l <= 1048576 /\ ShR (rT
  l))))))) /\ (br (lgR (rT l)) (br (!decide (Int.ofNat (List.length x.8.1.1) <= (2000 : Int))) z1 ((((z6 /\ True) /\ ((True /\ True) /\ (True /\ (IsF (rT q) (List.length q)
  /\ (List.length q <= 1048576 /\ ShR (rT q))))))) /\ (br (!lgR (rT q)) z1 ((((z6 /\ (True /\ True)) /\ ((True /\ True) /\ (True /\ (IsF (rT q) (List.length q) /\
  (List.length q <= 9223372036854775807 /\ alB (rT q) z7 <= 16777000)))))) /\ ((((True /\ True) /\ (True /\ ((Plain (elC (alV (rT q) z7)) /\ True) /\ List.length (L (alV (rT
  q) z7)) <= 16777000)))) /\ (br (!okS (alV (rT q) z7)) z1 (br (alN (rT q) z7 == (0 : Int)) z1 (z11 /\ (br (decide (8 + List.length z12 <= 9223372036854775807)) (z11 /\ (br
  (decide (10 + List.length z12 <= 9223372036854775807)) ((((True /\ (True /\ (True /\ True))) /\ (True /\ (True /\ (inside wh (0 : Int) (4 : Int) = (3 : Int) /\ ((0 : Int)
  = (0 : Int) /\ ((4 : Int) = (4 : Int) /\ I64 wh))))))) /\ (br (decide (0 + List.length q * 2 <= List.length (gC enF q))) (br (allOne (List.take (List.length q * 2)
  (List.drop 0 (gC enF q)))) (br (decide (0 + List.length q <= 16777216)) (br (decide (0 + List.length q + 1 <= 16777216)) (br (decide (0 + (0 + List.length q) * 2 <=
  List.length ([] ++ List.take (List.length q * 2) (List.drop 0 (gC enF q))))) ((Value.slice (some (Addr.mk 2 0 none)) (List.length q) 2 = Value.slice (some (Addr.mk 2 0
  none)) (List.length q) 2) /\ ((Value.string z8 = Value.string z8) /\ ((Value.string z8 = Value.string z8) /\ ((((z5 /\ ((True /\ (True /\ (True /\ (True /\ (z6 /\ (True /\
  True)))))) /\ (True /\ (True /\ True)))) /\ ((True /\ (True /\ (True /\ True))) /\ (True /\ (IsF (rT d) (List.length d) /\ (IsF (rT l) (List.length l) /\ (IsF (rT q)
  (List.length q) /\ (List.length d <= 9223372036854775807 /\ (List.length l <= 9223372036854775807 /\ (List.length q <= 9223372036854775807 /\ (BgR (rT l) /\ BgR (rT
  q)))))))))))) /\ ((((z5 /\ ((True /\ (True /\ (True /\ (True /\ ((0 + (0 + List.length q + 1) * 2 <= List.length z3 /\ Plain (List.take ((0 + List.length q + 1) * 2)
  (List.drop 0 z3))) /\ (True /\ True)))))) /\ (True /\ (True /\ True)))) /\ ((True /\ (True /\ (True /\ True))) /\ (True /\ (IsF (rT d) (List.length d) /\ (IsF (rT l)
  (List.length l) /\ (IsF z9 (0 + List.length q + 1) /\ (List.length d <= 9223372036854775807 /\ (List.length l <= 9223372036854775807 /\ (0 + List.length q + 1 <=
  9223372036854775807 /\ (BgR (rT l) /\ BgR z9))))))))))) /\ ((Value.agg z2 = Value.agg z2) /\ ((Value.agg z10 = Value.agg z10) /\ ((Value.agg z2 = Value.agg z2) /\
  ((Value.agg z2 = Value.agg z2) /\ ((Value.agg z4 = Value.agg z4) /\ ((Value.agg z4 = Value.agg z4) /\ ((((z6 /\ True) /\ ((True /\ True) /\ (True /\ (IsF (rT q)
  (List.length q) /\ (List.length q <= 9223372036854775807 /\ BgR (rT q))))))) /\ (br (useR (rT l) z9 x.9 x.10 x.6 now sh != (1 : Int)) z1 (br (useR (rT l) (rT q) x.9 x.10
  x.6 now sh == (1 : Int)) z1 ((true = false) /\ ((Eq (α := List Value) (gC enF d) (gC enF d)) /\ ((Plain (gC enF d)) /\ ((Eq (α := List Value) (gC enF l) (gC enF l)) /\
  ((Plain (gC enF l)) /\ ((Eq (α := List Value) (gC enF q) (gC enF q)) /\ ((Plain (gC enF q)) /\ True))))))))))))))))))))) False) False) False) False) False)) False))
  False))))))))) z1)) z1)) := by kernel_rfl
theorem S_vc4 (x : En12) (y : Rq6) (d l q : List Fl) (now : Int) (sh : Nat) (wh : Int) (k : Nat) : mcall EtS4 noM 60 6 [.agg ⟨enT x 0 d.length 1 l.length⟩, .agg ⟨rqT y 2 q.length⟩, .int .i64 now, .float .f64 sh, .int .i64 wh, .int .u16 (k : Nat)] ⟨mkR (nums 0 [gRo enF d, gRo enF l, gRo enF q]), 3⟩ (retIs 3 (.bool true) [gRo enF d, gRo enF l, gRo enF q]) =
  let z1 := (((True /\ (True /\ (True /\ True)))) /\ ((true = true) /\ ((Eq (α := List Value) (gC enF d) (gC enF d)) /\ ((Plain (gC enF d)) /\ ((Eq (α := List Value) (gC enF
  l) (gC enF l)) /\ ((Plain (gC enF l)) /\ ((Eq (α := List Value) (gC enF q) (gC enF q)) /\ ((Plain (gC enF q)) /\ True)))))))); let z2 := (Array.mk [Value.string x.1,
  Value.string x.2, Value.string x.3, Value.string x.4, Value.slice (some (Addr.mk 0 0 none)) (List.length d) 2, Value.int IntKind.i64 x.5, Value.int IntKind.i64 x.6,
  Value.slice (some (Addr.mk 1 0 none)) (List.length l) 2, Value.int IntKind.i64 x.7, Value.string x.8, Value.int IntKind.i64 x.9, Value.int IntKind.i64 x.10]); let z7 :=
  (ByteArray.mk #[99, 97, 99, 104, 101, 45, 99, 111, 110, 116, 114, 111, 108]); let z3 := (List.take ((0 + List.length q) * 2) (List.drop 0 ([] ++ List.take (List.length q *
  2) (List.drop 0 (gC enF q)))) ++ [Value.string z7, Value.string (ByteArray.mk #[112, 117, 98, 108, 105, 99])]); let z4 := (Array.mk [Value.string y.1, Value.string y.2,
  Value.string y.3, Value.string y.4, Value.slice (some (Addr.mk 24 0 none)) (0 + List.length q + 1) 2, Value.int IntKind.i64 y.5]); let z5 := (True /\ (True /\ (True /\
  (True /\ ((0 + List.length d * 2 <= List.length (gC enF d) /\ Plain (List.take (List.length d * 2) (List.drop 0 (gC enF d)))) /\ (True /\ (True /\ ((0 + List.length l * 2
  <= List.length (gC enF l) /\ Plain (List.take (List.length l * 2) (List.drop 0 (gC enF l)))) /\ (True /\ (True /\ (True /\ (True /\ True)))))))))))); let z6 := (0 +
  List.length q * 2 <= List.length (gC enF q) /\ Plain (List.take (List.length q * 2) (List.drop 0 (gC enF q)))); let z8 := (Row.mk (List.take ((0 + List.length q + 1) * 2)
  (List.drop 0 z3)) true (Ob.cells true)); let z9 := (Array.mk [Value.string y.1, Value.string y.2, Value.string y.3, Value.string y.4, Value.slice (some (Addr.mk 2 0 none))
  (List.length q) 2, Value.int IntKind.i64 y.5]); let z10 := (((True /\ True) /\ (True /\ (True /\ ((0 : Int) <= IntKind.wrap IntKind.i64 (↑k : Int) /\ IntKind.wrap
  IntKind.i64 (↑k : Int) <= (1000000000000 : Int)))))); let z11 := (Value.string (ByteArray.mk #[112, 117, 98, 108, 105, 99]) = Value.string (ByteArray.mk #[112, 117, 98,
  108, 105, 99])); let z12 := (Array.toList (ByteArray.data (dgI (IntKind.wrap IntKind.i64 (↑k : Int))))); (((((0 + List.length d * 2 <= List.length (gC enF d) /\ Plain
  (List.take (List.length d * 2) (List.drop 0 (gC enF d)))) /\ True) /\ ((True /\ True) /\ (True /\ (IsF (rT d) (List.length d) /\ (List.length d <= 1048576 /\ ShR (rT
  d))))))) /\ (br (lgR (rT d)) (((((0 + List.length l * 2 <= List.length (gC enF l) /\ Plain (List.take (List.length l * 2) (List.drop 0 (gC enF l)))) /\ True) /\ ((True /\
  True) /\ (True /\ (IsF (rT l) (List.length l) /\ (List.length l <= 1048576 /\ ShR (rT l))))))) /\ (br (lgR (rT l)) (br (!decide (Int.ofNat (List.length x.8.1.1) <= (2000 :
  Int))) z1 ((((z6 /\ True) /\ ((True /\ True) /\ (True /\ (IsF (rT q) (List.length q) /\ (List.length q <= 1048576 /\ ShR (rT q))))))) /\ (br (!lgR (rT q)) z1 ((((z6 /\
  (True /\ True)) /\ ((True /\ True) /\ (True /\ (IsF (rT q) (List.length q) /\ (List.length q <= 9223372036854775807 /\ alB (rT q) z7 <= 16777000)))))) /\ ((((True /\ True)
  /\ (True /\ ((Plain (elC (alV (rT q) z7)) /\ True) /\ List.length (L (alV (rT q) z7)) <= 16777000)))) /\ (br (!okS (alV (rT q) z7)) z1 (br (alN (rT q) z7 == (0 : Int)) z1
  (z10 /\ (br (decide (8 + List.length z12 <= 9223372036854775807)) (z10 /\ (br (decide (10 + List.length z12 <= 9223372036854775807)) ((((True /\ (True /\ (True /\ True)))
  /\ (True /\ (True /\ (inside wh (0 : Int) (4 : Int) = (4 : Int) /\ ((0 : Int) = (0 : Int) /\ ((4 : Int) = (4 : Int) /\ I64 wh))))))) /\ (br (decide (0 + List.length q * 2
  <= List.length (gC enF q))) (br (allOne (List.take (List.length q * 2) (List.drop 0 (gC enF q)))) (br (decide (0 + List.length q <= 16777216)) (br (decide (0 + List.length
  q + 1 <= 16777216)) (br (decide (0 + (0 + List.length q) * 2 <= List.length ([] ++ List.take (List.length q * 2) (List.drop 0 (gC enF q))))) ((Value.slice (some (Addr.mk 2
  0 none)) (List.length q) 2 = Value.slice (some (Addr.mk 2 0 none)) (List.length q) 2) /\ (z11 /\ (z11 /\ ((((z5 /\ ((True /\ (True /\ (True /\ (True /\ (z6 /\ (True /\
  True)))))) /\ (True /\ (True /\ True)))) /\ ((True /\ (True /\ (True /\ True))) /\ (True /\ (IsF (rT d) (List.length d) /\ (IsF (rT l) (List.length l) /\ (IsF (rT q)
  (List.length q) /\ (List.length d <= 9223372036854775807 /\ (List.length l <= 9223372036854775807 /\ (List.length q <= 9223372036854775807 /\ (BgR (rT l) /\ BgR (rT
  q)))))))))))) /\ ((((z5 /\ ((True /\ (True /\ (True /\ (True /\ ((0 + (0 + List.length q + 1) * 2 <= List.length z3 /\ Plain (List.take ((0 + List.length q + 1) * 2)
  (List.drop 0 z3))) /\ (True /\ True)))))) /\ (True /\ (True /\ True)))) /\ ((True /\ (True /\ (True /\ True))) /\ (True /\ (IsF (rT d) (List.length d) /\ (IsF (rT l)
  (List.length l) /\ (IsF z8 (0 + List.length q + 1) /\ (List.length d <= 9223372036854775807 /\ (List.length l <= 9223372036854775807 /\ (0 + List.length q + 1 <=
  9223372036854775807 /\ (BgR (rT l) /\ BgR z8))))))))))) /\ ((Value.agg z2 = Value.agg z2) /\ ((Value.agg z9 = Value.agg z9) /\ ((Value.agg z2 = Value.agg z2) /\
  ((Value.agg z2 = Value.agg z2) /\ ((Value.agg z4 = Value.agg z4) /\ ((Value.agg z4 = Value.agg z4) /\ ((((z6 /\ True) /\ ((True /\ True) /\ (True /\ (IsF (rT q)
  (List.length q) /\ (List.length q <= 9223372036854775807 /\ BgR (rT q))))))) /\ (br (useR (rT l) z8 x.9 x.10 x.6 now sh != (1 : Int)) z1 (br (useR (rT l) (rT q) x.9 x.10
  x.6 now sh == (1 : Int)) z1 ((true = false) /\ ((Eq (α := List Value) (gC enF d) (gC enF d)) /\ ((Plain (gC enF d)) /\ ((Eq (α := List Value) (gC enF l) (gC enF l)) /\
  ((Plain (gC enF l)) /\ ((Eq (α := List Value) (gC enF q) (gC enF q)) /\ ((Plain (gC enF q)) /\ True))))))))))))))))))))) False) False) False) False) False)) False))
  False))))))))) z1)) z1)) := by kernel_rfl
theorem z_useR (r1 r2 : Row) (asked came st now : Int) (sh : Nat) : useR r1 r2 asked came st now sh = useI (ctlL (decF r1.cells)) (ctlL (decF r2.cells)) (prgL (decF r2.cells)) (ageL (decF r1.cells) asked came now) (lifeL (decF r1.cells) came st sh) := Classical.choose_spec (int_ex _)
theorem eLgF_ok : EntOk Try.prog eLgF := entC_ok (by
  intro a rows p v news h hp
  split at h <;> simp only [Option.some.injEq, Prod.mk.injEq, reduceCtorEq] at h
  obtain ⟨rfl, rfl, rfl⟩ := h
  obtain ⟨⟨l, rfl, rfl⟩, h1, h2⟩ := hp
  simp only [lgR, ShR, dF0, List.append_nil] at h2 ⊢
  exact Lg_con l h1 h2)
theorem eRuns_ok : EntOk Try.prog eRuns := entC_ok (by
  intro a rows p v news h hp
  split at h <;> simp only [Option.some.injEq, Prod.mk.injEq, reduceCtorEq] at h
  obtain ⟨rfl, rfl, rfl⟩ := h
  exact con_run mixed (n := 1000000) (by kernel_rfl) (by kernel_rfl))
theorem eUs_ok : EntOk Try.prog eUs := entC_ok (by
  intro a rows p v news h hp
  split at h <;> simp only [Option.some.injEq, Prod.mk.injEq, reduceCtorEq] at h
  obtain ⟨rfl, rfl, rfl⟩ := h
  obtain ⟨⟨d, rfl, rfl⟩, ⟨l, rfl, rfl⟩, ⟨q, rfl, rfl⟩, h1, h2, h3, h4, h5⟩ := hp
  simp only [z_useR, BgR, dF0, List.append_nil] at h4 h5 ⊢
  exact us_con ⟨_, _, _, _, _, _, _, _, _, _⟩ ⟨_, _, _, _, _⟩ d l q _ _ h1 h2 h3 h4 h5)
theorem eAl2_ok : EntOk Try.prog eAl2 := entC_ok (by
  intro a rows p v news h hp
  split at h <;> simp only [Option.some.injEq, Prod.mk.injEq, reduceCtorEq] at h
  obtain ⟨rfl, rfl, rfl⟩ := h
  obtain ⟨⟨l, rfl, rfl⟩, h1, h2⟩ := hp
  simp only [alB, dF0] at h2
  simp only [alV, alN, dF0, List.append_nil]
  exact Ra_con l (L _) h1 (by omega))
theorem eSp2_ok : EntOk Try.prog eSp2 := entC_ok (by
  intro a rows p v news h hp
  split at h <;> simp only [Option.some.injEq, Prod.mk.injEq, reduceCtorEq] at h
  obtain ⟨rfl, rfl, rfl⟩ := h
  exact Rs_con (L _) hp)
theorem eDg_ok : EntOk Try.prog eDg := entC_ok (by
  intro a rows p v news h hp
  split at h <;> simp only [Option.some.injEq, Prod.mk.injEq, reduceCtorEq] at h
  obtain ⟨rfl, rfl, rfl⟩ := h
  rename_i n
  obtain ⟨h1, h2⟩ := hp
  have := Dg_con n.toNat (by omega)
  rw [show ((n.toNat : Nat) : Int) = n by omega] at this
  exact this)
theorem eW0_ok : EntOk Try.prog eW0 := entC_ok (by
  intro a rows p v news h hp
  split at h <;> simp only [Option.some.injEq, Prod.mk.injEq, reduceCtorEq] at h
  obtain ⟨rfl, rfl, rfl⟩ := h
  obtain ⟨h1, rfl, rfl, h2⟩ := hp
  have h := within_con _ 0 4 h2 (by omega) (by omega) (by omega)
  rw [h1] at h
  exact h)
theorem tS0_ok : ∀ x ∈ tS0, EntOk Try.prog x := all_cons eLgF_ok (all_cons eRuns_ok (all_cons eUs_ok (all_cons eAl2_ok (all_cons eSp2_ok (all_cons eCoR_ok (all_cons eDg_ok (all_cons eW0_ok (all_nil))))))))
theorem eW1_ok : EntOk Try.prog eW1 := entC_ok (by
  intro a rows p v news h hp
  split at h <;> simp only [Option.some.injEq, Prod.mk.injEq, reduceCtorEq] at h
  obtain ⟨rfl, rfl, rfl⟩ := h
  obtain ⟨h1, rfl, rfl, h2⟩ := hp
  have h := within_con _ 0 4 h2 (by omega) (by omega) (by omega)
  rw [h1] at h
  exact h)
theorem tS1_ok : ∀ x ∈ tS1, EntOk Try.prog x := all_cons eLgF_ok (all_cons eRuns_ok (all_cons eUs_ok (all_cons eAl2_ok (all_cons eSp2_ok (all_cons eCoR_ok (all_cons eDg_ok (all_cons eW1_ok (all_nil))))))))
theorem eW2_ok : EntOk Try.prog eW2 := entC_ok (by
  intro a rows p v news h hp
  split at h <;> simp only [Option.some.injEq, Prod.mk.injEq, reduceCtorEq] at h
  obtain ⟨rfl, rfl, rfl⟩ := h
  obtain ⟨h1, rfl, rfl, h2⟩ := hp
  have h := within_con _ 0 4 h2 (by omega) (by omega) (by omega)
  rw [h1] at h
  exact h)
theorem tS2_ok : ∀ x ∈ tS2, EntOk Try.prog x := all_cons eLgF_ok (all_cons eRuns_ok (all_cons eUs_ok (all_cons eAl2_ok (all_cons eSp2_ok (all_cons eCoR_ok (all_cons eDg_ok (all_cons eW2_ok (all_nil))))))))
theorem eW3_ok : EntOk Try.prog eW3 := entC_ok (by
  intro a rows p v news h hp
  split at h <;> simp only [Option.some.injEq, Prod.mk.injEq, reduceCtorEq] at h
  obtain ⟨rfl, rfl, rfl⟩ := h
  obtain ⟨h1, rfl, rfl, h2⟩ := hp
  have h := within_con _ 0 4 h2 (by omega) (by omega) (by omega)
  rw [h1] at h
  exact h)
theorem tS3_ok : ∀ x ∈ tS3, EntOk Try.prog x := all_cons eLgF_ok (all_cons eRuns_ok (all_cons eUs_ok (all_cons eAl2_ok (all_cons eSp2_ok (all_cons eCoR_ok (all_cons eDg_ok (all_cons eW3_ok (all_nil))))))))
theorem eW4_ok : EntOk Try.prog eW4 := entC_ok (by
  intro a rows p v news h hp
  split at h <;> simp only [Option.some.injEq, Prod.mk.injEq, reduceCtorEq] at h
  obtain ⟨rfl, rfl, rfl⟩ := h
  obtain ⟨h1, rfl, rfl, h2⟩ := hp
  have h := within_con _ 0 4 h2 (by omega) (by omega) (by omega)
  rw [h1] at h
  exact h)
theorem tS4_ok : ∀ x ∈ tS4, EntOk Try.prog x := all_cons eLgF_ok (all_cons eRuns_ok (all_cons eUs_ok (all_cons eAl2_ok (all_cons eSp2_ok (all_cons eCoR_ok (all_cons eDg_ok (all_cons eW4_ok (all_nil))))))))
theorem useI_one (c d : Ct) (pg : Bool) (A F : Int) : useI c d pg A F = 1 ↔ (c.nc = false ∧ d.nc = false ∧ pg = false ∧ young d A = true ∧ alive c d A F = true) := by
  unfold useI
  generalize young d A = x
  generalize alive c d A F = y
  constructor
  · intro h
    split at h
    · rename_i hh; simpa using hh
    · split at h <;> omega
  · rintro ⟨a, b, c, d, e⟩
    rw [a, b, c, d, e]; rfl
theorem us_strict (c d e : Ct) (A F : Int) (h1 : e.nc = false → d.nc = false) (h2 : d.ma < 0 ∨ (0 ≤ e.ma ∧ e.ma ≤ d.ma)) (h3 : e.st = d.st) (h4 : d.fr = e.fr ∨ (d.fr = -1 ∧ 0 ≤ e.fr)) (h : useI c e false A F = 1) : useI c d false A F = 1 := by
  rw [useI_one] at h ⊢
  obtain ⟨a1, a2, a3, a4, a5⟩ := h
  refine ⟨a1, h1 a2, rfl, ?_, ?_⟩
  · unfold young at *
    simp only [Bool.or_eq_true, decide_eq_true_eq] at *
    omega
  · unfold alive at *
    rw [h3] at a5
    split
    · rename_i k; rw [if_pos k] at a5
      simp only [decide_eq_true_eq] at *; omega
    · rename_i k; rw [if_neg k] at a5
      simp only [Bool.and_eq_true, decide_eq_true_eq] at *
      refine ⟨a5.1, a5.2.1, a5.2.2.1, by omega⟩
theorem prg_no (q : List Fl) (h : allN sCC q ≠ 0) : prgL q = false := by unfold prgL; rw [if_pos (by omega)]
theorem big_app (q : List Fl) (v : List UInt8) (h : lgN q ≤ 2000) (hv : v.length ≤ 1000) : BgL (q ++ [⟨sCC, v⟩]) := fun nm => by
  have := allL_le (q ++ [⟨sCC, v⟩]) nm
  rw [lgN_app] at this
  have e : lgN [⟨sCC, v⟩] ≤ 1100 := by unfold lgN fOn lgN; simp only [show sCC.length = 13 from rfl]; omega
  omega
theorem tk_app (q : List Fl) (v : List UInt8) : List.take ((q.length + 1) * 2) (List.take (q.length * 2) ([] ++ gC enF q) ++ [Value.string (bs sCC), Value.string (bs v)]) = gC enF (q ++ [⟨sCC, v⟩]) := by
  rw [List.nil_append, fTake, show [Value.string (bs sCC), Value.string (bs v)] = gC enF [⟨sCC, v⟩] from rfl, gC_app]
  have := fTake (q ++ [⟨sCC, v⟩])
  rwa [List.length_append] at this
set_option maxHeartbeats 2000000 in
theorem rs0 (em es ea ep : ByteArray) (d : List Fl) (ek st : Int) (l : List Fl) (k2 : Int) (body : ByteArray) (asked came : Int) (qm qs qa qp : ByteArray) (q : List Fl) (qk now : Int) (sh : Nat) (wh : Int) (k : Nat)
    (hd : d.length ≤ 1048576) (hd2 : ShortF d) (hl : l.length ≤ 1048576) (hl2 : ShortF l) (hq : q.length ≤ 1048576) (hq2 : ShortF q) (iw : I64 wh) (hk : k < 65536) (hw : inside wh 0 4 = 0) :
    Con Try.prog 6 [.agg ⟨enT ⟨em, es, ea, ep, ek, st, k2, body, asked, came⟩ 0 d.length 1 l.length⟩, .agg ⟨rqT ⟨qm, qs, qa, qp, qk⟩ 2 q.length⟩, .int .i64 now, .float .f64 sh, .int .i64 wh, .int .u16 (k : Nat)] [gRo enF d, gRo enF l, gRo enF q] (.bool true) [gRo enF d, gRo enF l, gRo enF q] := by
  refine con_vc (E := EtS0) mixed (calls_envT tS0_ok) (lok_envT _ _) (M := noM) lm_none (S_vc0 ⟨em, es, ea, ep, ek, st, k2, body, asked, came⟩ ⟨qm, qs, qa, qp, qk⟩ d l q now sh wh k) ?_
  have hm : maxLen = 9223372036854775807 := by unfold maxLen; rfl
  simp only [ofNat_eq, toNat_cast, Nat.zero_add, Nat.add_zero, Nat.mul_one, List.drop_zero, bCells_len, bCells_drop, bCells_take, bCells_app, bCells_one, bCells_plain, List.length_replicate, List.length_append, List.length_take, List.length_drop, List.take_length, and_true, true_and, and_self, decide_true, List.length_nil, List.length_cons, Nat.sub_zero, dB_mk, dB_ro, List.take_zero, rT, fPl, fLen, fTake, lgR_mk, z_useR, decF_gC, ctR]
  have sf : ∀ m : List Fl, ShortF m → m.length ≤ 1048576 → m.length * 2 ≤ m.length * 2 ∧ IsF ⟨gC enF m, true, .cells true⟩ m.length ∧ m.length ≤ 1048576 ∧ ShR ⟨gC enF m, true, .cells true⟩ := fun m h1 h2 => ⟨Nat.le_refl _, isF_mk _ _ rfl, h2, shR_mk _ _ _ h1⟩
  refine lift_br hd hd2 hl hl2 (fun g => ⟨sf q hq2 hq, br_intro (fun _ => trivial) (fun g2 => ?_)⟩)
  have g2 : lgB q = true := by simpa using g2
  have n2 : lgN q ≤ 2000 := by unfold lgB at g2; simpa using g2
  have e4 : (⟨#[99, 97, 99, 104, 101, 45, 99, 111, 110, 116, 114, 111, 108]⟩ : ByteArray) = bs sCC := rfl
  have r1 : ∀ l b o, alV ⟨gC enF l, b, o⟩ (bs sCC) = bs (allL l sCC) := fun l b o => by unfold alV; simp only; rw [decF_gC, L_bs]
  have r2 : ∀ l b o, alB ⟨gC enF l, b, o⟩ (bs sCC) = (allL l sCC).length := fun l b o => by unfold alB; simp only; rw [decF_gC, L_bs]
  have w : IntKind.i64.wrap (k : Int) = (k : Int) := wr64_id (by unfold I64; omega)
  have hl5 : (dgL k).length ≤ 5 := dgL_len k 5 (by omega) (by omega)
  have hL : (dgI (k : Int)).data.toList.length = (dgL k).length := by unfold dgI; rw [Int.toNat_natCast]; exact bs_len _
  have e5 : (⟨#[110, 111, 45, 99, 97, 99, 104, 101]⟩ : ByteArray) = bs sNoCache := rfl
  have vl : (sNoCache).length ≤ 1000 := by decide
  have hok : okF sCC [⟨sCC, sNoCache⟩] = true := by decide
  simp only [w, hL]
  simp only [e4, e5, r1, r2, tk_app, fPl, okS_bs, elC_bs, sPl, bs_len, L_bs, decF_gC, n_alN]
  have hA := allL_le q sCC
  refine ⟨⟨Nat.le_refl _, isF_mk _ _ rfl, by omega, by omega⟩, ⟨trivial, by omega⟩, br_intro (fun _ => trivial) (fun ok => br_intro (fun _ => trivial) (fun nz => ?_))⟩
  have ok : okF sCC q = true := by unfold okF; simpa using ok
  have nz : allN sCC q ≠ 0 := by intro h; rw [h] at nz; simp at nz
  obtain ⟨j1, j2, j3, j4, j5, j6, j7, j8, j9, j10⟩ := ctl_join (pairsL q sCC) (pairsL [⟨sCC, sNoCache⟩] sCC)
  rw [← ctlL_app q _ ok hok] at j1 j2 j3 j4 j5 j6 j7 j8 j9 j10
  rw [show ctlP (pairsL q sCC) = ctlL q from rfl, show ctlP (pairsL [⟨sCC, sNoCache⟩] sCC) = ctlL [⟨sCC, sNoCache⟩] from rfl] at j1 j2 j3 j4 j5 j6 j7 j8 j9 j10
  have gq := ctl_ge (pairsL q sCC)
  rw [show ctlP (pairsL q sCC) = ctlL q from rfl] at gq
  have ee : (ctlL [⟨sCC, sNoCache⟩]).nc = true ∧ (ctlL [⟨sCC, sNoCache⟩]).ma = -1 ∧ (ctlL [⟨sCC, sNoCache⟩]).fr = -1 ∧ (ctlL [⟨sCC, sNoCache⟩]).st = -1 := by decide
  rw [ee.1] at j2
  rw [ee.2.1] at j7
  rw [ee.2.2.1] at j9
  rw [ee.2.2.2] at j10
  simp only [comb] at j7 j9 j10
  have bg : BgL (q ++ [⟨sCC, sNoCache⟩]) := big_app q _ n2 vl
  have p1 := prg_no q nz
  have p2 : prgL (q ++ [⟨sCC, sNoCache⟩]) = false := prg_no _ (by rw [allN_app]; omega)
  rw [p1, p2]
  have iq : IsF ⟨gC enF (q ++ [⟨sCC, sNoCache⟩]), true, .cells true⟩ (q.length + 1) := isF_mk _ _ (by simp)
  have Pq : q.length * 2 ≤ q.length * 2 ∧ IsF ⟨gC enF q, true, .cells true⟩ q.length ∧ q.length ≤ 9223372036854775807 ∧ BgR ⟨gC enF q, true, .cells true⟩ := ⟨Nat.le_refl _, isF_mk _ _ rfl, by omega, bgR_mk _ _ _ (lg_bg g2)⟩
  have imp : useI (ctlL l) (ctlL (q ++ [⟨sCC, sNoCache⟩])) false (ageL l asked came now) (lifeL l came st sh) = 1 → useI (ctlL l) (ctlL q) false (ageL l asked came now) (lifeL l came st sh) = 1 := fun h => us_strict (ctlL l) (ctlL q) (ctlL (q ++ [⟨sCC, sNoCache⟩])) _ _ (by rw [j2]; simp) (by rw [j7]; grind) (by rw [j10]; grind) (by rw [j9]; grind) h
  generalize ctlL (q ++ [⟨sCC, sNoCache⟩]) = E at *
  refine ⟨⟨by omega, by omega⟩, br_dec (by omega) ⟨⟨by omega, by omega⟩, br_dec (by omega) ⟨⟨hw, iw⟩, br_dec (by omega) (br_b (fOne _) (br_dec (by omega) (br_dec (by omega) (br_dec (by omega) ⟨⟨⟨⟨Nat.le_refl _, Nat.le_refl _⟩, Nat.le_refl _⟩, isF_mk _ _ rfl, isF_mk _ _ rfl, isF_mk _ _ rfl, by omega, by omega, by omega, bgR_mk _ _ _ (lg_bg g), bgR_mk _ _ _ (lg_bg g2)⟩, ⟨⟨⟨Nat.le_refl _, Nat.le_refl _⟩, by omega, trivial⟩, isF_mk _ _ rfl, isF_mk _ _ rfl, iq, by omega, by omega, by omega, bgR_mk _ _ _ (lg_bg g), bgR_mk _ _ _ bg⟩, Pq, ?_⟩))))⟩⟩⟩
  refine br_intro (fun _ => trivial) (fun h => br_b ?_ trivial)
  have h : useI (ctlL l) E false (ageL l asked came now) (lifeL l came st sh) = 1 := by simpa using h
  rw [imp h]; rfl
set_option maxHeartbeats 2000000 in
theorem rs1 (em es ea ep : ByteArray) (d : List Fl) (ek st : Int) (l : List Fl) (k2 : Int) (body : ByteArray) (asked came : Int) (qm qs qa qp : ByteArray) (q : List Fl) (qk now : Int) (sh : Nat) (wh : Int) (k : Nat)
    (hd : d.length ≤ 1048576) (hd2 : ShortF d) (hl : l.length ≤ 1048576) (hl2 : ShortF l) (hq : q.length ≤ 1048576) (hq2 : ShortF q) (iw : I64 wh) (hk : k < 65536) (hw : inside wh 0 4 = 1) :
    Con Try.prog 6 [.agg ⟨enT ⟨em, es, ea, ep, ek, st, k2, body, asked, came⟩ 0 d.length 1 l.length⟩, .agg ⟨rqT ⟨qm, qs, qa, qp, qk⟩ 2 q.length⟩, .int .i64 now, .float .f64 sh, .int .i64 wh, .int .u16 (k : Nat)] [gRo enF d, gRo enF l, gRo enF q] (.bool true) [gRo enF d, gRo enF l, gRo enF q] := by
  refine con_vc (E := EtS1) mixed (calls_envT tS1_ok) (lok_envT _ _) (M := noM) lm_none (S_vc1 ⟨em, es, ea, ep, ek, st, k2, body, asked, came⟩ ⟨qm, qs, qa, qp, qk⟩ d l q now sh wh k) ?_
  have hm : maxLen = 9223372036854775807 := by unfold maxLen; rfl
  simp only [ofNat_eq, toNat_cast, Nat.zero_add, Nat.add_zero, Nat.mul_one, List.drop_zero, bCells_len, bCells_drop, bCells_take, bCells_app, bCells_one, bCells_plain, List.length_replicate, List.length_append, List.length_take, List.length_drop, List.take_length, and_true, true_and, and_self, decide_true, List.length_nil, List.length_cons, Nat.sub_zero, dB_mk, dB_ro, List.take_zero, rT, fPl, fLen, fTake, lgR_mk, z_useR, decF_gC, ctR]
  have sf : ∀ m : List Fl, ShortF m → m.length ≤ 1048576 → m.length * 2 ≤ m.length * 2 ∧ IsF ⟨gC enF m, true, .cells true⟩ m.length ∧ m.length ≤ 1048576 ∧ ShR ⟨gC enF m, true, .cells true⟩ := fun m h1 h2 => ⟨Nat.le_refl _, isF_mk _ _ rfl, h2, shR_mk _ _ _ h1⟩
  refine lift_br hd hd2 hl hl2 (fun g => ⟨sf q hq2 hq, br_intro (fun _ => trivial) (fun g2 => ?_)⟩)
  have g2 : lgB q = true := by simpa using g2
  have n2 : lgN q ≤ 2000 := by unfold lgB at g2; simpa using g2
  have e4 : (⟨#[99, 97, 99, 104, 101, 45, 99, 111, 110, 116, 114, 111, 108]⟩ : ByteArray) = bs sCC := rfl
  have r1 : ∀ l b o, alV ⟨gC enF l, b, o⟩ (bs sCC) = bs (allL l sCC) := fun l b o => by unfold alV; simp only; rw [decF_gC, L_bs]
  have r2 : ∀ l b o, alB ⟨gC enF l, b, o⟩ (bs sCC) = (allL l sCC).length := fun l b o => by unfold alB; simp only; rw [decF_gC, L_bs]
  have w : IntKind.i64.wrap (k : Int) = (k : Int) := wr64_id (by unfold I64; omega)
  have hl5 : (dgL k).length ≤ 5 := dgL_len k 5 (by omega) (by omega)
  have hL : (dgI (k : Int)).data.toList.length = (dgL k).length := by unfold dgI; rw [Int.toNat_natCast]; exact bs_len _
  have e5 : (⟨#[109, 97, 120, 45, 97, 103, 101, 61]⟩ : ByteArray) ++ dgI (k : Int) = bs (eqT sMaxAge (dgL k)) := by
    unfold dgI; rw [Int.toNat_natCast, show (⟨#[109, 97, 120, 45, 97, 103, 101, 61]⟩ : ByteArray) = bs (sMaxAge ++ [61]) from rfl, bs_app]; unfold eqT; simp
  have vl : (eqT sMaxAge (dgL k)).length ≤ 1000 := by unfold eqT; rw [List.length_append, List.length_cons]; have h20 := (by decide : sMaxAge.length ≤ 20); omega
  have hok : okF sCC [⟨sCC, eqT sMaxAge (dgL k)⟩] = true := ok_eq _ _ (by decide) (dg_all _ (dgL_in k)).1
  simp only [w, hL]
  simp only [e4, e5, r1, r2, tk_app, fPl, okS_bs, elC_bs, sPl, bs_len, L_bs, decF_gC, n_alN]
  have hA := allL_le q sCC
  refine ⟨⟨Nat.le_refl _, isF_mk _ _ rfl, by omega, by omega⟩, ⟨trivial, by omega⟩, br_intro (fun _ => trivial) (fun ok => br_intro (fun _ => trivial) (fun nz => ?_))⟩
  have ok : okF sCC q = true := by unfold okF; simpa using ok
  have nz : allN sCC q ≠ 0 := by intro h; rw [h] at nz; simp at nz
  obtain ⟨j1, j2, j3, j4, j5, j6, j7, j8, j9, j10⟩ := ctl_join (pairsL q sCC) (pairsL [⟨sCC, eqT sMaxAge (dgL k)⟩] sCC)
  rw [← ctlL_app q _ ok hok] at j1 j2 j3 j4 j5 j6 j7 j8 j9 j10
  rw [show ctlP (pairsL q sCC) = ctlL q from rfl, show ctlP (pairsL [⟨sCC, eqT sMaxAge (dgL k)⟩] sCC) = ctlL [⟨sCC, eqT sMaxAge (dgL k)⟩] from rfl] at j1 j2 j3 j4 j5 j6 j7 j8 j9 j10
  have gq := ctl_ge (pairsL q sCC)
  rw [show ctlP (pairsL q sCC) = ctlL q from rfl] at gq
  rw [ct_ma k (by omega)] at j1 j2 j3 j4 j5 j6 j7 j8 j9 j10
  simp only [ctMa, comb] at j2 j7 j9 j10
  have bg : BgL (q ++ [⟨sCC, eqT sMaxAge (dgL k)⟩]) := big_app q _ n2 vl
  have p1 := prg_no q nz
  have p2 : prgL (q ++ [⟨sCC, eqT sMaxAge (dgL k)⟩]) = false := prg_no _ (by rw [allN_app]; omega)
  rw [p1, p2]
  have iq : IsF ⟨gC enF (q ++ [⟨sCC, eqT sMaxAge (dgL k)⟩]), true, .cells true⟩ (q.length + 1) := isF_mk _ _ (by simp)
  have Pq : q.length * 2 ≤ q.length * 2 ∧ IsF ⟨gC enF q, true, .cells true⟩ q.length ∧ q.length ≤ 9223372036854775807 ∧ BgR ⟨gC enF q, true, .cells true⟩ := ⟨Nat.le_refl _, isF_mk _ _ rfl, by omega, bgR_mk _ _ _ (lg_bg g2)⟩
  have imp : useI (ctlL l) (ctlL (q ++ [⟨sCC, eqT sMaxAge (dgL k)⟩])) false (ageL l asked came now) (lifeL l came st sh) = 1 → useI (ctlL l) (ctlL q) false (ageL l asked came now) (lifeL l came st sh) = 1 := fun h => us_strict (ctlL l) (ctlL q) (ctlL (q ++ [⟨sCC, eqT sMaxAge (dgL k)⟩])) _ _ (by rw [j2]; simp) (by rw [j7]; grind) (by rw [j10]; grind) (by rw [j9]; grind) h
  generalize ctlL (q ++ [⟨sCC, eqT sMaxAge (dgL k)⟩]) = E at *
  refine ⟨⟨by omega, by omega⟩, br_dec (by omega) ⟨⟨by omega, by omega⟩, br_dec (by omega) ⟨⟨hw, iw⟩, br_dec (by omega) (br_b (fOne _) (br_dec (by omega) (br_dec (by omega) (br_dec (by omega) ⟨⟨⟨⟨Nat.le_refl _, Nat.le_refl _⟩, Nat.le_refl _⟩, isF_mk _ _ rfl, isF_mk _ _ rfl, isF_mk _ _ rfl, by omega, by omega, by omega, bgR_mk _ _ _ (lg_bg g), bgR_mk _ _ _ (lg_bg g2)⟩, ⟨⟨⟨Nat.le_refl _, Nat.le_refl _⟩, by omega, trivial⟩, isF_mk _ _ rfl, isF_mk _ _ rfl, iq, by omega, by omega, by omega, bgR_mk _ _ _ (lg_bg g), bgR_mk _ _ _ bg⟩, Pq, ?_⟩))))⟩⟩⟩
  refine br_intro (fun _ => trivial) (fun h => br_b ?_ trivial)
  have h : useI (ctlL l) E false (ageL l asked came now) (lifeL l came st sh) = 1 := by simpa using h
  rw [imp h]; rfl
set_option maxHeartbeats 2000000 in
theorem rs2 (em es ea ep : ByteArray) (d : List Fl) (ek st : Int) (l : List Fl) (k2 : Int) (body : ByteArray) (asked came : Int) (qm qs qa qp : ByteArray) (q : List Fl) (qk now : Int) (sh : Nat) (wh : Int) (k : Nat)
    (hd : d.length ≤ 1048576) (hd2 : ShortF d) (hl : l.length ≤ 1048576) (hl2 : ShortF l) (hq : q.length ≤ 1048576) (hq2 : ShortF q) (iw : I64 wh) (hk : k < 65536) (hw : inside wh 0 4 = 2) :
    Con Try.prog 6 [.agg ⟨enT ⟨em, es, ea, ep, ek, st, k2, body, asked, came⟩ 0 d.length 1 l.length⟩, .agg ⟨rqT ⟨qm, qs, qa, qp, qk⟩ 2 q.length⟩, .int .i64 now, .float .f64 sh, .int .i64 wh, .int .u16 (k : Nat)] [gRo enF d, gRo enF l, gRo enF q] (.bool true) [gRo enF d, gRo enF l, gRo enF q] := by
  refine con_vc (E := EtS2) mixed (calls_envT tS2_ok) (lok_envT _ _) (M := noM) lm_none (S_vc2 ⟨em, es, ea, ep, ek, st, k2, body, asked, came⟩ ⟨qm, qs, qa, qp, qk⟩ d l q now sh wh k) ?_
  have hm : maxLen = 9223372036854775807 := by unfold maxLen; rfl
  simp only [ofNat_eq, toNat_cast, Nat.zero_add, Nat.add_zero, Nat.mul_one, List.drop_zero, bCells_len, bCells_drop, bCells_take, bCells_app, bCells_one, bCells_plain, List.length_replicate, List.length_append, List.length_take, List.length_drop, List.take_length, and_true, true_and, and_self, decide_true, List.length_nil, List.length_cons, Nat.sub_zero, dB_mk, dB_ro, List.take_zero, rT, fPl, fLen, fTake, lgR_mk, z_useR, decF_gC, ctR]
  have sf : ∀ m : List Fl, ShortF m → m.length ≤ 1048576 → m.length * 2 ≤ m.length * 2 ∧ IsF ⟨gC enF m, true, .cells true⟩ m.length ∧ m.length ≤ 1048576 ∧ ShR ⟨gC enF m, true, .cells true⟩ := fun m h1 h2 => ⟨Nat.le_refl _, isF_mk _ _ rfl, h2, shR_mk _ _ _ h1⟩
  refine lift_br hd hd2 hl hl2 (fun g => ⟨sf q hq2 hq, br_intro (fun _ => trivial) (fun g2 => ?_)⟩)
  have g2 : lgB q = true := by simpa using g2
  have n2 : lgN q ≤ 2000 := by unfold lgB at g2; simpa using g2
  have e4 : (⟨#[99, 97, 99, 104, 101, 45, 99, 111, 110, 116, 114, 111, 108]⟩ : ByteArray) = bs sCC := rfl
  have r1 : ∀ l b o, alV ⟨gC enF l, b, o⟩ (bs sCC) = bs (allL l sCC) := fun l b o => by unfold alV; simp only; rw [decF_gC, L_bs]
  have r2 : ∀ l b o, alB ⟨gC enF l, b, o⟩ (bs sCC) = (allL l sCC).length := fun l b o => by unfold alB; simp only; rw [decF_gC, L_bs]
  have w : IntKind.i64.wrap (k : Int) = (k : Int) := wr64_id (by unfold I64; omega)
  have hl5 : (dgL k).length ≤ 5 := dgL_len k 5 (by omega) (by omega)
  have hL : (dgI (k : Int)).data.toList.length = (dgL k).length := by unfold dgI; rw [Int.toNat_natCast]; exact bs_len _
  have e5 : (⟨#[109, 105, 110, 45, 102, 114, 101, 115, 104, 61]⟩ : ByteArray) ++ dgI (k : Int) = bs (eqT sMinFresh (dgL k)) := by
    unfold dgI; rw [Int.toNat_natCast, show (⟨#[109, 105, 110, 45, 102, 114, 101, 115, 104, 61]⟩ : ByteArray) = bs (sMinFresh ++ [61]) from rfl, bs_app]; unfold eqT; simp
  have vl : (eqT sMinFresh (dgL k)).length ≤ 1000 := by unfold eqT; rw [List.length_append, List.length_cons]; have h20 := (by decide : sMinFresh.length ≤ 20); omega
  have hok : okF sCC [⟨sCC, eqT sMinFresh (dgL k)⟩] = true := ok_eq _ _ (by decide) (dg_all _ (dgL_in k)).1
  simp only [w, hL]
  simp only [e4, e5, r1, r2, tk_app, fPl, okS_bs, elC_bs, sPl, bs_len, L_bs, decF_gC, n_alN]
  have hA := allL_le q sCC
  refine ⟨⟨Nat.le_refl _, isF_mk _ _ rfl, by omega, by omega⟩, ⟨trivial, by omega⟩, br_intro (fun _ => trivial) (fun ok => br_intro (fun _ => trivial) (fun nz => ?_))⟩
  have ok : okF sCC q = true := by unfold okF; simpa using ok
  have nz : allN sCC q ≠ 0 := by intro h; rw [h] at nz; simp at nz
  obtain ⟨j1, j2, j3, j4, j5, j6, j7, j8, j9, j10⟩ := ctl_join (pairsL q sCC) (pairsL [⟨sCC, eqT sMinFresh (dgL k)⟩] sCC)
  rw [← ctlL_app q _ ok hok] at j1 j2 j3 j4 j5 j6 j7 j8 j9 j10
  rw [show ctlP (pairsL q sCC) = ctlL q from rfl, show ctlP (pairsL [⟨sCC, eqT sMinFresh (dgL k)⟩] sCC) = ctlL [⟨sCC, eqT sMinFresh (dgL k)⟩] from rfl] at j1 j2 j3 j4 j5 j6 j7 j8 j9 j10
  have gq := ctl_ge (pairsL q sCC)
  rw [show ctlP (pairsL q sCC) = ctlL q from rfl] at gq
  rw [ct_fr k (by omega)] at j1 j2 j3 j4 j5 j6 j7 j8 j9 j10
  simp only [ctFr, comb] at j2 j7 j9 j10
  have bg : BgL (q ++ [⟨sCC, eqT sMinFresh (dgL k)⟩]) := big_app q _ n2 vl
  have p1 := prg_no q nz
  have p2 : prgL (q ++ [⟨sCC, eqT sMinFresh (dgL k)⟩]) = false := prg_no _ (by rw [allN_app]; omega)
  rw [p1, p2]
  have iq : IsF ⟨gC enF (q ++ [⟨sCC, eqT sMinFresh (dgL k)⟩]), true, .cells true⟩ (q.length + 1) := isF_mk _ _ (by simp)
  have Pq : q.length * 2 ≤ q.length * 2 ∧ IsF ⟨gC enF q, true, .cells true⟩ q.length ∧ q.length ≤ 9223372036854775807 ∧ BgR ⟨gC enF q, true, .cells true⟩ := ⟨Nat.le_refl _, isF_mk _ _ rfl, by omega, bgR_mk _ _ _ (lg_bg g2)⟩
  have imp : (ctlL q).fr < 0 → useI (ctlL l) (ctlL (q ++ [⟨sCC, eqT sMinFresh (dgL k)⟩])) false (ageL l asked came now) (lifeL l came st sh) = 1 → useI (ctlL l) (ctlL q) false (ageL l asked came now) (lifeL l came st sh) = 1 := fun hf h => us_strict (ctlL l) (ctlL q) (ctlL (q ++ [⟨sCC, eqT sMinFresh (dgL k)⟩])) _ _ (by rw [j2]; simp) (by rw [j7]; grind) (by rw [j10]; grind) (by rw [j9]; grind) h
  generalize ctlL (q ++ [⟨sCC, eqT sMinFresh (dgL k)⟩]) = E at *
  refine ⟨⟨by omega, by omega⟩, br_dec (by omega) ⟨⟨by omega, by omega⟩, br_dec (by omega) ⟨⟨hw, iw⟩, br_dec (by omega) (br_b (fOne _) (br_dec (by omega) (br_dec (by omega) (br_dec (by omega) ⟨⟨⟨⟨Nat.le_refl _, Nat.le_refl _⟩, Nat.le_refl _⟩, isF_mk _ _ rfl, isF_mk _ _ rfl, isF_mk _ _ rfl, by omega, by omega, by omega, bgR_mk _ _ _ (lg_bg g), bgR_mk _ _ _ (lg_bg g2)⟩, ⟨⟨⟨Nat.le_refl _, Nat.le_refl _⟩, by omega, trivial⟩, isF_mk _ _ rfl, isF_mk _ _ rfl, iq, by omega, by omega, by omega, bgR_mk _ _ _ (lg_bg g), bgR_mk _ _ _ bg⟩, Pq, ?_⟩))))⟩⟩⟩
  refine br_intro (fun _ => trivial) (fun h => br_intro (fun _ => trivial) (fun h3 => br_dec ?_ trivial))
  have h : useI (ctlL l) E false (ageL l asked came now) (lifeL l came st sh) = 1 := by simpa using h
  apply Decidable.byContradiction
  intro h4
  rw [imp (by omega) h] at h3
  simp at h3
set_option maxHeartbeats 2000000 in
theorem rs3 (em es ea ep : ByteArray) (d : List Fl) (ek st : Int) (l : List Fl) (k2 : Int) (body : ByteArray) (asked came : Int) (qm qs qa qp : ByteArray) (q : List Fl) (qk now : Int) (sh : Nat) (wh : Int) (k : Nat)
    (hd : d.length ≤ 1048576) (hd2 : ShortF d) (hl : l.length ≤ 1048576) (hl2 : ShortF l) (hq : q.length ≤ 1048576) (hq2 : ShortF q) (iw : I64 wh) (hk : k < 65536) (hw : inside wh 0 4 = 3) :
    Con Try.prog 6 [.agg ⟨enT ⟨em, es, ea, ep, ek, st, k2, body, asked, came⟩ 0 d.length 1 l.length⟩, .agg ⟨rqT ⟨qm, qs, qa, qp, qk⟩ 2 q.length⟩, .int .i64 now, .float .f64 sh, .int .i64 wh, .int .u16 (k : Nat)] [gRo enF d, gRo enF l, gRo enF q] (.bool true) [gRo enF d, gRo enF l, gRo enF q] := by
  refine con_vc (E := EtS3) mixed (calls_envT tS3_ok) (lok_envT _ _) (M := noM) lm_none (S_vc3 ⟨em, es, ea, ep, ek, st, k2, body, asked, came⟩ ⟨qm, qs, qa, qp, qk⟩ d l q now sh wh k) ?_
  have hm : maxLen = 9223372036854775807 := by unfold maxLen; rfl
  simp only [ofNat_eq, toNat_cast, Nat.zero_add, Nat.add_zero, Nat.mul_one, List.drop_zero, bCells_len, bCells_drop, bCells_take, bCells_app, bCells_one, bCells_plain, List.length_replicate, List.length_append, List.length_take, List.length_drop, List.take_length, and_true, true_and, and_self, decide_true, List.length_nil, List.length_cons, Nat.sub_zero, dB_mk, dB_ro, List.take_zero, rT, fPl, fLen, fTake, lgR_mk, z_useR, decF_gC, ctR]
  have sf : ∀ m : List Fl, ShortF m → m.length ≤ 1048576 → m.length * 2 ≤ m.length * 2 ∧ IsF ⟨gC enF m, true, .cells true⟩ m.length ∧ m.length ≤ 1048576 ∧ ShR ⟨gC enF m, true, .cells true⟩ := fun m h1 h2 => ⟨Nat.le_refl _, isF_mk _ _ rfl, h2, shR_mk _ _ _ h1⟩
  refine lift_br hd hd2 hl hl2 (fun g => ⟨sf q hq2 hq, br_intro (fun _ => trivial) (fun g2 => ?_)⟩)
  have g2 : lgB q = true := by simpa using g2
  have n2 : lgN q ≤ 2000 := by unfold lgB at g2; simpa using g2
  have e4 : (⟨#[99, 97, 99, 104, 101, 45, 99, 111, 110, 116, 114, 111, 108]⟩ : ByteArray) = bs sCC := rfl
  have r1 : ∀ l b o, alV ⟨gC enF l, b, o⟩ (bs sCC) = bs (allL l sCC) := fun l b o => by unfold alV; simp only; rw [decF_gC, L_bs]
  have r2 : ∀ l b o, alB ⟨gC enF l, b, o⟩ (bs sCC) = (allL l sCC).length := fun l b o => by unfold alB; simp only; rw [decF_gC, L_bs]
  have w : IntKind.i64.wrap (k : Int) = (k : Int) := wr64_id (by unfold I64; omega)
  have hl5 : (dgL k).length ≤ 5 := dgL_len k 5 (by omega) (by omega)
  have hL : (dgI (k : Int)).data.toList.length = (dgL k).length := by unfold dgI; rw [Int.toNat_natCast]; exact bs_len _
  have e5 : (⟨#[111, 110, 108, 121, 45, 105, 102, 45, 99, 97, 99, 104, 101, 100]⟩ : ByteArray) = bs sOnly := rfl
  have vl : (sOnly).length ≤ 1000 := by decide
  have hok : okF sCC [⟨sCC, sOnly⟩] = true := by decide
  simp only [w, hL]
  simp only [e4, e5, r1, r2, tk_app, fPl, okS_bs, elC_bs, sPl, bs_len, L_bs, decF_gC, n_alN]
  have hA := allL_le q sCC
  refine ⟨⟨Nat.le_refl _, isF_mk _ _ rfl, by omega, by omega⟩, ⟨trivial, by omega⟩, br_intro (fun _ => trivial) (fun ok => br_intro (fun _ => trivial) (fun nz => ?_))⟩
  have ok : okF sCC q = true := by unfold okF; simpa using ok
  have nz : allN sCC q ≠ 0 := by intro h; rw [h] at nz; simp at nz
  obtain ⟨j1, j2, j3, j4, j5, j6, j7, j8, j9, j10⟩ := ctl_join (pairsL q sCC) (pairsL [⟨sCC, sOnly⟩] sCC)
  rw [← ctlL_app q _ ok hok] at j1 j2 j3 j4 j5 j6 j7 j8 j9 j10
  rw [show ctlP (pairsL q sCC) = ctlL q from rfl, show ctlP (pairsL [⟨sCC, sOnly⟩] sCC) = ctlL [⟨sCC, sOnly⟩] from rfl] at j1 j2 j3 j4 j5 j6 j7 j8 j9 j10
  have gq := ctl_ge (pairsL q sCC)
  rw [show ctlP (pairsL q sCC) = ctlL q from rfl] at gq
  have ee : (ctlL [⟨sCC, sOnly⟩]).nc = false ∧ (ctlL [⟨sCC, sOnly⟩]).ma = -1 ∧ (ctlL [⟨sCC, sOnly⟩]).fr = -1 ∧ (ctlL [⟨sCC, sOnly⟩]).st = -1 := by decide
  rw [ee.1] at j2
  rw [ee.2.1] at j7
  rw [ee.2.2.1] at j9
  rw [ee.2.2.2] at j10
  simp only [comb] at j7 j9 j10
  have bg : BgL (q ++ [⟨sCC, sOnly⟩]) := big_app q _ n2 vl
  have p1 := prg_no q nz
  have p2 : prgL (q ++ [⟨sCC, sOnly⟩]) = false := prg_no _ (by rw [allN_app]; omega)
  rw [p1, p2]
  have iq : IsF ⟨gC enF (q ++ [⟨sCC, sOnly⟩]), true, .cells true⟩ (q.length + 1) := isF_mk _ _ (by simp)
  have Pq : q.length * 2 ≤ q.length * 2 ∧ IsF ⟨gC enF q, true, .cells true⟩ q.length ∧ q.length ≤ 9223372036854775807 ∧ BgR ⟨gC enF q, true, .cells true⟩ := ⟨Nat.le_refl _, isF_mk _ _ rfl, by omega, bgR_mk _ _ _ (lg_bg g2)⟩
  have imp : useI (ctlL l) (ctlL (q ++ [⟨sCC, sOnly⟩])) false (ageL l asked came now) (lifeL l came st sh) = 1 → useI (ctlL l) (ctlL q) false (ageL l asked came now) (lifeL l came st sh) = 1 := fun h => us_strict (ctlL l) (ctlL q) (ctlL (q ++ [⟨sCC, sOnly⟩])) _ _ (by rw [j2]; simp) (by rw [j7]; grind) (by rw [j10]; grind) (by rw [j9]; grind) h
  generalize ctlL (q ++ [⟨sCC, sOnly⟩]) = E at *
  refine ⟨⟨by omega, by omega⟩, br_dec (by omega) ⟨⟨by omega, by omega⟩, br_dec (by omega) ⟨⟨hw, iw⟩, br_dec (by omega) (br_b (fOne _) (br_dec (by omega) (br_dec (by omega) (br_dec (by omega) ⟨⟨⟨⟨Nat.le_refl _, Nat.le_refl _⟩, Nat.le_refl _⟩, isF_mk _ _ rfl, isF_mk _ _ rfl, isF_mk _ _ rfl, by omega, by omega, by omega, bgR_mk _ _ _ (lg_bg g), bgR_mk _ _ _ (lg_bg g2)⟩, ⟨⟨⟨Nat.le_refl _, Nat.le_refl _⟩, by omega, trivial⟩, isF_mk _ _ rfl, isF_mk _ _ rfl, iq, by omega, by omega, by omega, bgR_mk _ _ _ (lg_bg g), bgR_mk _ _ _ bg⟩, Pq, ?_⟩))))⟩⟩⟩
  refine br_intro (fun _ => trivial) (fun h => br_b ?_ trivial)
  have h : useI (ctlL l) E false (ageL l asked came now) (lifeL l came st sh) = 1 := by simpa using h
  rw [imp h]; rfl
set_option maxHeartbeats 2000000 in
theorem rs4 (em es ea ep : ByteArray) (d : List Fl) (ek st : Int) (l : List Fl) (k2 : Int) (body : ByteArray) (asked came : Int) (qm qs qa qp : ByteArray) (q : List Fl) (qk now : Int) (sh : Nat) (wh : Int) (k : Nat)
    (hd : d.length ≤ 1048576) (hd2 : ShortF d) (hl : l.length ≤ 1048576) (hl2 : ShortF l) (hq : q.length ≤ 1048576) (hq2 : ShortF q) (iw : I64 wh) (hk : k < 65536) (hw : inside wh 0 4 = 4) :
    Con Try.prog 6 [.agg ⟨enT ⟨em, es, ea, ep, ek, st, k2, body, asked, came⟩ 0 d.length 1 l.length⟩, .agg ⟨rqT ⟨qm, qs, qa, qp, qk⟩ 2 q.length⟩, .int .i64 now, .float .f64 sh, .int .i64 wh, .int .u16 (k : Nat)] [gRo enF d, gRo enF l, gRo enF q] (.bool true) [gRo enF d, gRo enF l, gRo enF q] := by
  refine con_vc (E := EtS4) mixed (calls_envT tS4_ok) (lok_envT _ _) (M := noM) lm_none (S_vc4 ⟨em, es, ea, ep, ek, st, k2, body, asked, came⟩ ⟨qm, qs, qa, qp, qk⟩ d l q now sh wh k) ?_
  have hm : maxLen = 9223372036854775807 := by unfold maxLen; rfl
  simp only [ofNat_eq, toNat_cast, Nat.zero_add, Nat.add_zero, Nat.mul_one, List.drop_zero, bCells_len, bCells_drop, bCells_take, bCells_app, bCells_one, bCells_plain, List.length_replicate, List.length_append, List.length_take, List.length_drop, List.take_length, and_true, true_and, and_self, decide_true, List.length_nil, List.length_cons, Nat.sub_zero, dB_mk, dB_ro, List.take_zero, rT, fPl, fLen, fTake, lgR_mk, z_useR, decF_gC, ctR]
  have sf : ∀ m : List Fl, ShortF m → m.length ≤ 1048576 → m.length * 2 ≤ m.length * 2 ∧ IsF ⟨gC enF m, true, .cells true⟩ m.length ∧ m.length ≤ 1048576 ∧ ShR ⟨gC enF m, true, .cells true⟩ := fun m h1 h2 => ⟨Nat.le_refl _, isF_mk _ _ rfl, h2, shR_mk _ _ _ h1⟩
  refine lift_br hd hd2 hl hl2 (fun g => ⟨sf q hq2 hq, br_intro (fun _ => trivial) (fun g2 => ?_)⟩)
  have g2 : lgB q = true := by simpa using g2
  have n2 : lgN q ≤ 2000 := by unfold lgB at g2; simpa using g2
  have e4 : (⟨#[99, 97, 99, 104, 101, 45, 99, 111, 110, 116, 114, 111, 108]⟩ : ByteArray) = bs sCC := rfl
  have r1 : ∀ l b o, alV ⟨gC enF l, b, o⟩ (bs sCC) = bs (allL l sCC) := fun l b o => by unfold alV; simp only; rw [decF_gC, L_bs]
  have r2 : ∀ l b o, alB ⟨gC enF l, b, o⟩ (bs sCC) = (allL l sCC).length := fun l b o => by unfold alB; simp only; rw [decF_gC, L_bs]
  have w : IntKind.i64.wrap (k : Int) = (k : Int) := wr64_id (by unfold I64; omega)
  have hl5 : (dgL k).length ≤ 5 := dgL_len k 5 (by omega) (by omega)
  have hL : (dgI (k : Int)).data.toList.length = (dgL k).length := by unfold dgI; rw [Int.toNat_natCast]; exact bs_len _
  have e5 : (⟨#[112, 117, 98, 108, 105, 99]⟩ : ByteArray) = bs sPublic := rfl
  have vl : (sPublic).length ≤ 1000 := by decide
  have hok : okF sCC [⟨sCC, sPublic⟩] = true := by decide
  simp only [w, hL]
  simp only [e4, e5, r1, r2, tk_app, fPl, okS_bs, elC_bs, sPl, bs_len, L_bs, decF_gC, n_alN]
  have hA := allL_le q sCC
  refine ⟨⟨Nat.le_refl _, isF_mk _ _ rfl, by omega, by omega⟩, ⟨trivial, by omega⟩, br_intro (fun _ => trivial) (fun ok => br_intro (fun _ => trivial) (fun nz => ?_))⟩
  have ok : okF sCC q = true := by unfold okF; simpa using ok
  have nz : allN sCC q ≠ 0 := by intro h; rw [h] at nz; simp at nz
  obtain ⟨j1, j2, j3, j4, j5, j6, j7, j8, j9, j10⟩ := ctl_join (pairsL q sCC) (pairsL [⟨sCC, sPublic⟩] sCC)
  rw [← ctlL_app q _ ok hok] at j1 j2 j3 j4 j5 j6 j7 j8 j9 j10
  rw [show ctlP (pairsL q sCC) = ctlL q from rfl, show ctlP (pairsL [⟨sCC, sPublic⟩] sCC) = ctlL [⟨sCC, sPublic⟩] from rfl] at j1 j2 j3 j4 j5 j6 j7 j8 j9 j10
  have gq := ctl_ge (pairsL q sCC)
  rw [show ctlP (pairsL q sCC) = ctlL q from rfl] at gq
  have ee : (ctlL [⟨sCC, sPublic⟩]).nc = false ∧ (ctlL [⟨sCC, sPublic⟩]).ma = -1 ∧ (ctlL [⟨sCC, sPublic⟩]).fr = -1 ∧ (ctlL [⟨sCC, sPublic⟩]).st = -1 := by decide
  rw [ee.1] at j2
  rw [ee.2.1] at j7
  rw [ee.2.2.1] at j9
  rw [ee.2.2.2] at j10
  simp only [comb] at j7 j9 j10
  have bg : BgL (q ++ [⟨sCC, sPublic⟩]) := big_app q _ n2 vl
  have p1 := prg_no q nz
  have p2 : prgL (q ++ [⟨sCC, sPublic⟩]) = false := prg_no _ (by rw [allN_app]; omega)
  rw [p1, p2]
  have iq : IsF ⟨gC enF (q ++ [⟨sCC, sPublic⟩]), true, .cells true⟩ (q.length + 1) := isF_mk _ _ (by simp)
  have Pq : q.length * 2 ≤ q.length * 2 ∧ IsF ⟨gC enF q, true, .cells true⟩ q.length ∧ q.length ≤ 9223372036854775807 ∧ BgR ⟨gC enF q, true, .cells true⟩ := ⟨Nat.le_refl _, isF_mk _ _ rfl, by omega, bgR_mk _ _ _ (lg_bg g2)⟩
  have imp : useI (ctlL l) (ctlL (q ++ [⟨sCC, sPublic⟩])) false (ageL l asked came now) (lifeL l came st sh) = 1 → useI (ctlL l) (ctlL q) false (ageL l asked came now) (lifeL l came st sh) = 1 := fun h => us_strict (ctlL l) (ctlL q) (ctlL (q ++ [⟨sCC, sPublic⟩])) _ _ (by rw [j2]; simp) (by rw [j7]; grind) (by rw [j10]; grind) (by rw [j9]; grind) h
  generalize ctlL (q ++ [⟨sCC, sPublic⟩]) = E at *
  refine ⟨⟨by omega, by omega⟩, br_dec (by omega) ⟨⟨by omega, by omega⟩, br_dec (by omega) ⟨⟨hw, iw⟩, br_dec (by omega) (br_b (fOne _) (br_dec (by omega) (br_dec (by omega) (br_dec (by omega) ⟨⟨⟨⟨Nat.le_refl _, Nat.le_refl _⟩, Nat.le_refl _⟩, isF_mk _ _ rfl, isF_mk _ _ rfl, isF_mk _ _ rfl, by omega, by omega, by omega, bgR_mk _ _ _ (lg_bg g), bgR_mk _ _ _ (lg_bg g2)⟩, ⟨⟨⟨Nat.le_refl _, Nat.le_refl _⟩, by omega, trivial⟩, isF_mk _ _ rfl, isF_mk _ _ rfl, iq, by omega, by omega, by omega, bgR_mk _ _ _ (lg_bg g), bgR_mk _ _ _ bg⟩, Pq, ?_⟩))))⟩⟩⟩
  refine br_intro (fun _ => trivial) (fun h => br_b ?_ trivial)
  have h : useI (ctlL l) E false (ageL l asked came now) (lifeL l came st sh) = 1 := by simpa using h
  rw [imp h]; rfl
theorem rs_law (em es ea ep : ByteArray) (d : List Fl) (ek st : Int) (l : List Fl) (k2 : Int) (body : ByteArray) (asked came : Int) (qm qs qa qp : ByteArray) (q : List Fl) (qk now : Int) (sh : Nat) (wh n : Int)
    (z1 : em.size ≤ 1048576) (z2 : es.size ≤ 1048576) (z3 : ea.size ≤ 1048576) (z4 : ep.size ≤ 1048576) (hd : d.length ≤ 1048576) (hd2 : ∀ f ∈ d, f.n.length ≤ 1048576 ∧ f.v.length ≤ 1048576) (i1 : I64 ek) (i2 : I64 st) (hl : l.length ≤ 1048576) (hl2 : ∀ f ∈ l, f.n.length ≤ 1048576 ∧ f.v.length ≤ 1048576) (i3 : I64 k2) (z5 : body.size ≤ 1048576) (i4 : I64 asked) (i5 : I64 came)
    (z6 : qm.size ≤ 1048576) (z7 : qs.size ≤ 1048576) (z8 : qa.size ≤ 1048576) (z9 : qp.size ≤ 1048576) (hq : q.length ≤ 1048576) (hq2 : ∀ f ∈ q, f.n.length ≤ 1048576 ∧ f.v.length ≤ 1048576) (i6 : I64 qk) (ia : I64 now) (iw : I64 wh) (hn : (Lit.int .u16 n).wf = true) :
    Con Try.prog 6 [.agg ⟨enT ⟨em, es, ea, ep, ek, st, k2, body, asked, came⟩ 0 d.length 1 l.length⟩, .agg ⟨rqT ⟨qm, qs, qa, qp, qk⟩ 2 q.length⟩, .int .i64 now, .float .f64 sh, .int .i64 wh, .int .u16 n] [gRo enF d, gRo enF l, gRo enF q] (.bool true) [gRo enF d, gRo enF l, gRo enF q] := by
  have hn := wf16 hn
  obtain ⟨k, rfl⟩ : ∃ k : Nat, n = (k : Nat) := ⟨n.toNat, by omega⟩
  have hi := inside_in wh 0 4 (by omega)
  have h5 : inside wh 0 4 = 0 ∨ inside wh 0 4 = 1 ∨ inside wh 0 4 = 2 ∨ inside wh 0 4 = 3 ∨ inside wh 0 4 = 4 := by omega
  rcases h5 with h | h | h | h | h
  · exact rs0 em es ea ep d ek st l k2 body asked came qm qs qa qp q qk now sh wh k hd hd2 hl hl2 hq hq2 iw (by omega) h
  · exact rs1 em es ea ep d ek st l k2 body asked came qm qs qa qp q qk now sh wh k hd hd2 hl hl2 hq hq2 iw (by omega) h
  · exact rs2 em es ea ep d ek st l k2 body asked came qm qs qa qp q qk now sh wh k hd hd2 hl hl2 hq hq2 iw (by omega) h
  · exact rs3 em es ea ep d ek st l k2 body asked came qm qs qa qp q qk now sh wh k hd hd2 hl hl2 hq hq2 iw (by omega) h
  · exact rs4 em es ea ep d ek st l k2 body asked came qm qs qa qp q qk now sh wh k hd hd2 hl hl2 hq hq2 iw (by omega) h
end Go.Proofs.Ytajfdcijpchjdaa.tk
