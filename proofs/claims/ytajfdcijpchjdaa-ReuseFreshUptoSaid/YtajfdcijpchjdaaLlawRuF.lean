/- The law: to a request that says nothing an entry is served as long as it is fresh. -/
import Derived.Test.YtajfdcijpchjdaaSz9
import Derived.Test.YtajfdcijpchjdaaRows
import Derived.Test.YtajfdcijpchjdaaLmRu
import Derived.Test.YtajfdcijpchjdaaLctlj
set_option maxRecDepth 20000
set_option linter.unusedSimpArgs false
set_option linter.unusedVariables false
namespace Go.Proofs.Ytajfdcijpchjdaa.tk
open Go Go.Ev Go.Sy Go.RowKit Go.Proofs.Ytajfdcijpchjdaa.gl
noncomputable def useR (r1 r2 : Row) (asked came st now : Int) (sh : Nat) : Int := Classical.choose (int_ex (useI (ctlL (decF r1.cells)) (ctlL (decF r2.cells)) (prgL (decF r2.cells)) (ageL (decF r1.cells) asked came now) (lifeL (decF r1.cells) came st sh)))
noncomputable def noR (r : Row) : Int := Classical.choose (int_ex (if (ctlL (decF r.cells)).on then 4 else 3))
noncomputable def eLgF : EntM := entC 12 fun a r => match a, r with
  | [.slice (some ⟨0, 0, none⟩) n 2], [r0] => some (IsF r0 n ∧ n ≤ 1048576 ∧ ShR r0, .bool (lgR r0), [])
  | _, _ => none
noncomputable def eRuns : EntM := entC 3 fun a r => match a, r with
  | [], [] => some (True, .bool true, [])
  | _, _ => none
noncomputable def eNo : EntM := entC 10 fun a r => match a, r with
  | [.agg ⟨[.string m, .string s, .string a, .string p, .slice (some ⟨0, 0, none⟩) n 2, .int .i64 k]⟩], [r] => some (IsF r n ∧ n ≤ maxLen ∧ BgR r, .int .i64 (noR r), [])
  | _, _ => none
noncomputable def eUs : EntM := entC 14 fun a r => match a, r with
  | [.agg ⟨[.string m, .string s, .string a, .string p, .slice (some ⟨0, 0, none⟩) n0 2, .int .i64 k, .int .i64 st, .slice (some ⟨1, 0, none⟩) n 2, .int .i64 k2, .string body, .int .i64 asked, .int .i64 came]⟩, .agg ⟨[.string qm, .string qs, .string qa, .string qp, .slice (some ⟨2, 0, none⟩) nq 2, .int .i64 qk]⟩, .int .i64 now, .float .f64 sh], [r0, r, rq] => some (IsF r0 n0 ∧ IsF r n ∧ IsF rq nq ∧ n0 ≤ maxLen ∧ n ≤ maxLen ∧ nq ≤ maxLen ∧ BgR r ∧ BgR rq, .int .i64 (useR r rq asked came st now sh), [])
  | _, _ => none
noncomputable def eWi : EntM := entC 16 fun a r => match a, r with
  | [.int .i64 n, .int .i64 lo, .int .i64 hi], [] => some (I64 n ∧ -1000000000000 ≤ lo ∧ hi ≤ 1000000000000 ∧ lo ≤ hi, .int .i64 (inside n lo hi), [])
  | _, _ => none
noncomputable def eAl2 : EntM := entC 18 fun a r => match a, r with
  | [.slice (some ⟨0, 0, none⟩) n 2, .string s], [r0] => some (IsF r0 n ∧ n ≤ maxLen ∧ alB r0 s ≤ 16777000, .tuple #[.string (alV r0 s), .int .i64 (alN r0 s)], [])
  | _, _ => none
noncomputable def eSp2 : EntM := entC 19 fun a r => match a, r with
  | [.string s], [] => some ((L s).length ≤ 16777000, .tuple #[.slice (some ⟨0, 0, none⟩) (elN s) 1, .bool (okS s)], [⟨elC s, false, .cells true⟩])
  | _, _ => none
noncomputable def tRf : List EntM := [eLgF, eRuns, eCoR, eUs, eWi, eLi, eAg]
noncomputable abbrev EtRf : Env := envT Try.prog tRf
noncomputable def tRo : List EntM := [eLgF, eRuns, eUs, eNo, eAl2, eSp2]
noncomputable abbrev EtRo : Env := envT Try.prog tRo
theorem Rf_vc (x : En12) (d l : List Fl) (now later : Int) (sh : Nat) : mcall EtRf noM 60 5 [.agg ⟨enT x 0 d.length 1 l.length⟩, .int .i64 now, .int .i64 later, .float .f64 sh] ⟨mkR (nums 0 [gRo enF d, gRo enF l]), 2⟩ (retIs 2 (.bool true) [gRo enF d, gRo enF l]) =
  let z2 := (Array.mk [Value.string x.1, Value.string x.2, Value.string x.3, Value.string x.4, Value.slice (some (Addr.mk 0 0 none)) (List.length d) 2, Value.int IntKind.i64
  x.5, Value.int IntKind.i64 x.6, Value.slice (some (Addr.mk 1 0 none)) (List.length l) 2, Value.int IntKind.i64 x.7, Value.string x.8, Value.int IntKind.i64 x.9, Value.int
  IntKind.i64 x.10]); let z7 := (if inside later (0 : Int) (2147483647 : Int) < inside now (0 : Int) (2147483647 : Int) then inside later (0 : Int) (2147483647 : Int) else
  inside now (0 : Int) (2147483647 : Int)); let z4 := ((Eq (α := List Value) (gC enF d) (gC enF d)) /\ ((Plain (gC enF d)) /\ ((Eq (α := List Value) (gC enF l) (gC enF l))
  /\ ((Plain (gC enF l)) /\ True)))); let z8 := (((True /\ (True /\ (True /\ True)))) /\ ((true = true) /\ z4)); let z1 := (((((True /\ (True /\ (True /\ (True /\ ((0 +
  List.length d * 2 <= List.length (gC enF d) /\ Plain (List.take (List.length d * 2) (List.drop 0 (gC enF d)))) /\ (True /\ (True /\ ((0 + List.length l * 2 <= List.length
  (gC enF l) /\ Plain (List.take (List.length l * 2) (List.drop 0 (gC enF l)))) /\ (True /\ (True /\ (True /\ (True /\ True)))))))))))) /\ (True /\ True)) /\ ((True /\ (True
  /\ True)) /\ (True /\ (IsF (rT d) (List.length d) /\ (IsF (rT l) (List.length l) /\ (List.length d <= 9223372036854775807 /\ (List.length l <= 9223372036854775807 /\ BgR
  (rT l))))))))) /\ (((((True /\ (True /\ (True /\ (True /\ ((0 + List.length d * 2 <= List.length (gC enF d) /\ Plain (List.take (List.length d * 2) (List.drop 0 (gC enF
  d)))) /\ (True /\ (True /\ ((0 + List.length l * 2 <= List.length (gC enF l) /\ Plain (List.take (List.length l * 2) (List.drop 0 (gC enF l)))) /\ (True /\ (True /\ (True
  /\ (True /\ True)))))))))))) /\ (True /\ True)) /\ ((True /\ (True /\ True)) /\ (True /\ (IsF (rT d) (List.length d) /\ (IsF (rT l) (List.length l) /\ (List.length d <=
  9223372036854775807 /\ (List.length l <= 9223372036854775807 /\ BgR (rT l))))))))) /\ ((Value.agg z2 = Value.agg z2) /\ ((Value.agg z2 = Value.agg z2) /\ ((Value.agg z2 =
  Value.agg z2) /\ (br ((useR (rT l) (Row.mk [] true (Ob.cells true)) x.9 x.10 x.6 z7 sh == (1 : Int)) == decide (IntKind.wrap IntKind.i64 (lifeR (rT l) x.10 x.6 sh - ageR
  (rT l) x.9 x.10 z7) > (0 : Int))) z8 ((true = false) /\ z4))))))); let z3 := (Array.mk [Value.string (ByteArray.mk #[71, 69, 84]), Value.string (ByteArray.mk #[]),
  Value.string (ByteArray.mk #[]), Value.string (ByteArray.mk #[]), Value.slice none 0 0, Value.int IntKind.i64 (0 : Int)]); let z5 := ((((True /\ (True /\ (True /\ (True /\
  ((0 + List.length d * 2 <= List.length (gC enF d) /\ Plain (List.take (List.length d * 2) (List.drop 0 (gC enF d)))) /\ (True /\ (True /\ ((0 + List.length l * 2 <=
  List.length (gC enF l) /\ Plain (List.take (List.length l * 2) (List.drop 0 (gC enF l)))) /\ (True /\ (True /\ (True /\ (True /\ True)))))))))))) /\ ((True /\ (True /\
  (True /\ (True /\ (True /\ (True /\ True)))))) /\ (True /\ (True /\ True)))) /\ ((True /\ (True /\ (True /\ True))) /\ (True /\ (IsF (rT d) (List.length d) /\ (IsF (rT l)
  (List.length l) /\ (IsF (Row.mk [] true (Ob.cells true)) 0 /\ (List.length d <= 9223372036854775807 /\ (List.length l <= 9223372036854775807 /\ (0 <= maxLen /\ (BgR (rT l)
  /\ BgR (Row.mk [] true (Ob.cells true))))))))))))); let z6 := (br (useR (rT l) (Row.mk [] true (Ob.cells true)) x.9 x.10 x.6 z7 sh == (2 : Int)) (br (useR (rT l) (Row.mk
  [] true (Ob.cells true)) x.9 x.10 x.6 (if inside later (0 : Int) (2147483647 : Int) > inside now (0 : Int) (2147483647 : Int) then inside later (0 : Int) (2147483647 :
  Int) else inside now (0 : Int) (2147483647 : Int)) sh != (2 : Int)) ((true = false) /\ z4) z1) z1); let z9 := ((0 + List.length l * 2 <= List.length (gC enF l) /\ Plain
  (List.take (List.length l * 2) (List.drop 0 (gC enF l)))) /\ True); let z10 := ((-1000000000000 : Int) <= (0 : Int) /\ ((2147483647 : Int) <= (1000000000000 : Int) /\ (0 :
  Int) <= (2147483647 : Int))); (((((0 + List.length d * 2 <= List.length (gC enF d) /\ Plain (List.take (List.length d * 2) (List.drop 0 (gC enF d)))) /\ True) /\ ((True /\
  True) /\ (True /\ (IsF (rT d) (List.length d) /\ (List.length d <= 1048576 /\ ShR (rT d))))))) /\ (br (lgR (rT d)) (((z9 /\ ((True /\ True) /\ (True /\ (IsF (rT l)
  (List.length l) /\ (List.length l <= 1048576 /\ ShR (rT l))))))) /\ (br (lgR (rT l)) (br (!decide (Int.ofNat (List.length x.8.1.1) <= (2000 : Int))) z8 (((z9 /\ ((True /\
  True) /\ (True /\ (IsF (rT l) (List.length l) /\ (List.length l <= 9223372036854775807 /\ BgR (rT l))))))) /\ (br ((ctR (rT l)).2) z8 ((((True /\ (True /\ (True /\ True)))
  /\ (True /\ (True /\ (I64 now /\ z10))))) /\ ((((True /\ (True /\ (True /\ True))) /\ (True /\ (True /\ (I64 later /\ z10))))) /\ (z5 /\ (z5 /\ ((Value.agg z2 = Value.agg
  z2) /\ ((Value.agg z3 = Value.agg z3) /\ ((Value.agg z2 = Value.agg z2) /\ ((Value.agg z2 = Value.agg z2) /\ ((Value.agg z3 = Value.agg z3) /\ ((Value.agg z3 = Value.agg
  z3) /\ (br (useR (rT l) (Row.mk [] true (Ob.cells true)) x.9 x.10 x.6 z7 sh != (1 : Int)) (br (useR (rT l) (Row.mk [] true (Ob.cells true)) x.9 x.10 x.6 z7 sh != (2 :
  Int)) ((true = false) /\ z4) z6) z6)))))))))))))) z8)) z8)) := by kernel_rfl
theorem Rol_vc (x : En12) (y : Rq6) (d l q : List Fl) (now : Int) (sh : Nat) : mcall EtRo noM 60 7 [.agg ⟨enT x 0 d.length 1 l.length⟩, .agg ⟨rqT y 2 q.length⟩, .int .i64 now, .float .f64 sh] ⟨mkR (nums 0 [gRo enF d, gRo enF l, gRo enF q]), 3⟩ (retIs 3 (.bool true) [gRo enF d, gRo enF l, gRo enF q]) =
  let z5 := (ByteArray.mk #[99, 97, 99, 104, 101, 45, 99, 111, 110, 116, 114, 111, 108]); let z1 := (List.take ((0 + List.length q) * 2) (List.drop 0 ([] ++ List.take
  (List.length q * 2) (List.drop 0 (gC enF q)))) ++ [Value.string z5, Value.string (ByteArray.mk #[111, 110, 108, 121, 45, 105, 102, 45, 99, 97, 99, 104, 101, 100])]); let
  z2 := ((Eq (α := List Value) (gC enF d) (gC enF d)) /\ ((Plain (gC enF d)) /\ ((Eq (α := List Value) (gC enF l) (gC enF l)) /\ ((Plain (gC enF l)) /\ ((Eq (α := List
  Value) (gC enF q) (gC enF q)) /\ ((Plain (gC enF q)) /\ True)))))); let z3 := (Row.mk (List.take ((0 + List.length q + 1) * 2) (List.drop 0 z1)) true (Ob.cells true)); let
  z6 := (((True /\ (True /\ (True /\ True)))) /\ ((true = true) /\ z2)); let z4 := (((((True /\ (True /\ (True /\ (True /\ ((0 + (0 + List.length q + 1) * 2 <= List.length
  z1 /\ Plain (List.take ((0 + List.length q + 1) * 2) (List.drop 0 z1))) /\ (True /\ True)))))) /\ True) /\ ((True /\ True) /\ (True /\ (IsF z3 (0 + List.length q + 1) /\
  (0 + List.length q + 1 <= 9223372036854775807 /\ BgR z3)))))) /\ (br (noR z3 == (4 : Int)) z6 ((true = false) /\ z2))); let z7 := (0 + List.length d * 2 <= List.length (gC
  enF d) /\ Plain (List.take (List.length d * 2) (List.drop 0 (gC enF d)))); let z8 := (0 + List.length l * 2 <= List.length (gC enF l) /\ Plain (List.take (List.length l *
  2) (List.drop 0 (gC enF l)))); let z9 := (0 + List.length q * 2 <= List.length (gC enF q) /\ Plain (List.take (List.length q * 2) (List.drop 0 (gC enF q)))); ((((z7 /\
  True) /\ ((True /\ True) /\ (True /\ (IsF (rT d) (List.length d) /\ (List.length d <= 1048576 /\ ShR (rT d))))))) /\ (br (lgR (rT d)) ((((z8 /\ True) /\ ((True /\ True) /\
  (True /\ (IsF (rT l) (List.length l) /\ (List.length l <= 1048576 /\ ShR (rT l))))))) /\ (br (lgR (rT l)) (br (!decide (Int.ofNat (List.length x.8.1.1) <= (2000 : Int)))
  z6 ((((z9 /\ True) /\ ((True /\ True) /\ (True /\ (IsF (rT q) (List.length q) /\ (List.length q <= 1048576 /\ ShR (rT q))))))) /\ (br (!lgR (rT q)) z6 ((((z9 /\ (True /\
  True)) /\ ((True /\ True) /\ (True /\ (IsF (rT q) (List.length q) /\ (List.length q <= 9223372036854775807 /\ alB (rT q) z5 <= 16777000)))))) /\ ((((True /\ True) /\ (True
  /\ ((Plain (elC (alV (rT q) z5)) /\ True) /\ List.length (L (alV (rT q) z5)) <= 16777000)))) /\ (br (!okS (alV (rT q) z5)) z6 (br (decide (0 + List.length q * 2 <=
  List.length (gC enF q))) (br (allOne (List.take (List.length q * 2) (List.drop 0 (gC enF q)))) (br (decide (0 + List.length q <= 16777216)) (br (decide (0 + List.length q
  + 1 <= 16777216)) (br (decide (0 + (0 + List.length q) * 2 <= List.length ([] ++ List.take (List.length q * 2) (List.drop 0 (gC enF q))))) (((((True /\ (True /\ (True /\
  (True /\ (z7 /\ (True /\ (True /\ (z8 /\ (True /\ (True /\ (True /\ (True /\ True)))))))))))) /\ ((True /\ (True /\ (True /\ (True /\ ((0 + (0 + List.length q + 1) * 2 <=
  List.length z1 /\ Plain (List.take ((0 + List.length q + 1) * 2) (List.drop 0 z1))) /\ (True /\ True)))))) /\ (True /\ (True /\ True)))) /\ ((True /\ (True /\ (True /\
  True))) /\ (True /\ (IsF (rT d) (List.length d) /\ (IsF (rT l) (List.length l) /\ (IsF z3 (0 + List.length q + 1) /\ (List.length d <= 9223372036854775807 /\ (List.length
  l <= 9223372036854775807 /\ (0 + List.length q + 1 <= 9223372036854775807 /\ (BgR (rT l) /\ BgR z3))))))))))) /\ (br (useR (rT l) z3 x.9 x.10 x.6 now sh == (1 : Int)) z4
  (br (useR (rT l) z3 x.9 x.10 x.6 now sh == (4 : Int)) z4 ((true = false) /\ z2)))) False) False) False) False) False))))))) z6)) z6)) := by kernel_rfl
theorem z_useR (r1 r2 : Row) (asked came st now : Int) (sh : Nat) : useR r1 r2 asked came st now sh = useI (ctlL (decF r1.cells)) (ctlL (decF r2.cells)) (prgL (decF r2.cells)) (ageL (decF r1.cells) asked came now) (lifeL (decF r1.cells) came st sh) := Classical.choose_spec (int_ex _)
theorem z_noR (r : Row) : noR r = if (ctlL (decF r.cells)).on then 4 else 3 := Classical.choose_spec (int_ex _)
theorem eLgF_ok : EntOk Try.prog eLgF := entC_ok (by
  intro a rows p v news h hp
  split at h <;> simp only [Option.some.injEq, Prod.mk.injEq, reduceCtorEq] at h
  obtain ⟨rfl, rfl, rfl⟩ := h
  obtain ⟨⟨l, rfl, rfl⟩, h1, h2⟩ := hp
  simp only [lgR, ShR, dF0, List.append_nil] at h2 ⊢
  exact Lg_con l h1 h2)
theorem eRuns_ok : EntOk Try.prog eRuns := entC_ok (by
  intro a rows p v news h hp
  split at h <;> simp only [Option.some.injEq, Prod.mk.injEq, reduceCtorEq] at h
  obtain ⟨rfl, rfl, rfl⟩ := h
  exact con_run mixed (n := 1000000) (by kernel_rfl) (by kernel_rfl))
theorem eNo_ok : EntOk Try.prog eNo := entC_ok (by
  intro a rows p v news h hp
  split at h <;> simp only [Option.some.injEq, Prod.mk.injEq, reduceCtorEq] at h
  obtain ⟨rfl, rfl, rfl⟩ := h
  obtain ⟨⟨q, rfl, rfl⟩, h1, h2⟩ := hp
  simp only [z_noR, BgR, dF0, List.append_nil] at h2 ⊢
  exact no_con ⟨_, _, _, _, _⟩ q h1 h2)
theorem eUs_ok : EntOk Try.prog eUs := entC_ok (by
  intro a rows p v news h hp
  split at h <;> simp only [Option.some.injEq, Prod.mk.injEq, reduceCtorEq] at h
  obtain ⟨rfl, rfl, rfl⟩ := h
  obtain ⟨⟨d, rfl, rfl⟩, ⟨l, rfl, rfl⟩, ⟨q, rfl, rfl⟩, h1, h2, h3, h4, h5⟩ := hp
  simp only [z_useR, BgR, dF0, List.append_nil] at h4 h5 ⊢
  exact us_con ⟨_, _, _, _, _, _, _, _, _, _⟩ ⟨_, _, _, _, _⟩ d l q _ _ h1 h2 h3 h4 h5)
theorem eWi_ok : EntOk Try.prog eWi := entC_ok (by
  intro a rows p v news h hp
  split at h <;> simp only [Option.some.injEq, Prod.mk.injEq, reduceCtorEq] at h
  obtain ⟨rfl, rfl, rfl⟩ := h
  exact within_con _ _ _ hp.1 hp.2.1 hp.2.2.1 hp.2.2.2)
theorem eAl2_ok : EntOk Try.prog eAl2 := entC_ok (by
  intro a rows p v news h hp
  split at h <;> simp only [Option.some.injEq, Prod.mk.injEq, reduceCtorEq] at h
  obtain ⟨rfl, rfl, rfl⟩ := h
  obtain ⟨⟨l, rfl, rfl⟩, h1, h2⟩ := hp
  simp only [alB, dF0] at h2
  simp only [alV, alN, dF0, List.append_nil]
  exact Ra_con l (L _) h1 (by omega))
theorem eSp2_ok : EntOk Try.prog eSp2 := entC_ok (by
  intro a rows p v news h hp
  split at h <;> simp only [Option.some.injEq, Prod.mk.injEq, reduceCtorEq] at h
  obtain ⟨rfl, rfl, rfl⟩ := h
  exact Rs_con (L _) hp)
theorem tRf_ok : ∀ x ∈ tRf, EntOk Try.prog x := all_cons eLgF_ok (all_cons eRuns_ok (all_cons eCoR_ok (all_cons eUs_ok (all_cons eWi_ok (all_cons eLi_ok (all_cons eAg_ok (all_nil)))))))
theorem tRo_ok : ∀ x ∈ tRo, EntOk Try.prog x := all_cons eLgF_ok (all_cons eRuns_ok (all_cons eUs_ok (all_cons eNo_ok (all_cons eAl2_ok (all_cons eSp2_ok (all_nil))))))
theorem us_none (c : Ct) (A F : Int) (h : c.nc = false) : useI c c0 false A F = if A < F then 1 else 2 := by
  unfold useI young alive c0
  simp only [h]
  by_cases k : A < F
  · simp only [if_pos k]
    have : (decide ((-1 : Int) ≤ F - A)) = true := decide_eq_true (by omega)
    rw [this]; rfl
  · simp only [if_neg k]
    have : (decide (A - F ≤ (-1 : Int))) = false := decide_eq_false (by omega)
    rw [this]; rfl
theorem rf_law (em es ea ep : ByteArray) (d : List Fl) (ek st : Int) (l : List Fl) (k2 : Int) (body : ByteArray) (asked came now later : Int) (sh : Nat)
    (z1 : em.size ≤ 1048576) (z2 : es.size ≤ 1048576) (z3 : ea.size ≤ 1048576) (z4 : ep.size ≤ 1048576) (hd : d.length ≤ 1048576) (hd2 : ∀ f ∈ d, f.n.length ≤ 1048576 ∧ f.v.length ≤ 1048576) (i1 : I64 ek) (i2 : I64 st) (hl : l.length ≤ 1048576) (hl2 : ∀ f ∈ l, f.n.length ≤ 1048576 ∧ f.v.length ≤ 1048576) (i3 : I64 k2) (z5 : body.size ≤ 1048576) (i4 : I64 asked) (i5 : I64 came) (ia : I64 now) (ib : I64 later) :
    Con Try.prog 5 [.agg ⟨enT ⟨em, es, ea, ep, ek, st, k2, body, asked, came⟩ 0 d.length 1 l.length⟩, .int .i64 now, .int .i64 later, .float .f64 sh] [gRo enF d, gRo enF l] (.bool true) [gRo enF d, gRo enF l] := by
  refine con_vc (E := EtRf) mixed (calls_envT tRf_ok) (lok_envT _ _) (M := noM) lm_none (Rf_vc ⟨em, es, ea, ep, ek, st, k2, body, asked, came⟩ d l now later sh) ?_
  have hm : maxLen = 9223372036854775807 := by unfold maxLen; rfl
  simp only [mx1, mn1]
  simp only [ofNat_eq, toNat_cast, Nat.zero_add, Nat.add_zero, Nat.mul_one, List.drop_zero, bCells_len, bCells_drop, bCells_take, bCells_app, bCells_one, bCells_plain, List.length_replicate, List.length_append, List.length_take, List.length_drop, List.take_length, and_true, true_and, and_self, decide_true, List.length_nil, List.length_cons, Nat.sub_zero, dB_mk, dB_ro, List.take_zero, rT, fPl, fLen, fTake, lgR_mk, z_useR, z_ageR, z_lifeR, decF_gC, ctR]
  refine lift_br hd hd2 hl hl2 (fun g => ?_)
  have Pl : l.length * 2 ≤ l.length * 2 ∧ IsF ⟨gC enF l, true, .cells true⟩ l.length ∧ l.length ≤ 9223372036854775807 ∧ BgR ⟨gC enF l, true, .cells true⟩ := ⟨Nat.le_refl _, isF_mk _ _ rfl, by omega, bgR_mk _ _ _ (lg_bg g)⟩
  have P : (d.length * 2 ≤ d.length * 2 ∧ l.length * 2 ≤ l.length * 2) ∧ IsF ⟨gC enF d, true, .cells true⟩ d.length ∧ IsF ⟨gC enF l, true, .cells true⟩ l.length ∧ d.length ≤ 9223372036854775807 ∧ l.length ≤ 9223372036854775807 ∧ BgR ⟨gC enF l, true, .cells true⟩ := ⟨⟨Nat.le_refl _, Nat.le_refl _⟩, isF_mk _ _ rfl, isF_mk _ _ rfl, by omega, by omega, bgR_mk _ _ _ (lg_bg g)⟩
  have P0 : (d.length * 2 ≤ d.length * 2 ∧ l.length * 2 ≤ l.length * 2) ∧ IsF ⟨gC enF d, true, .cells true⟩ d.length ∧ IsF ⟨gC enF l, true, .cells true⟩ l.length ∧ IsF ⟨[], true, .cells true⟩ 0 ∧ d.length ≤ 9223372036854775807 ∧ l.length ≤ 9223372036854775807 ∧ 0 ≤ maxLen ∧ BgR ⟨gC enF l, true, .cells true⟩ ∧ BgR ⟨[], true, .cells true⟩ := ⟨⟨Nat.le_refl _, Nat.le_refl _⟩, isF_mk _ _ rfl, isF_mk _ _ rfl, isF_mk [] _ rfl, by omega, by omega, by omega, bgR_mk _ _ _ (lg_bg g), bgR_mk [] _ _ (lg_bg (by decide))⟩
  have ha := inside_in now 0 2147483647 (by omega)
  have hb := inside_in later 0 2147483647 (by omega)
  refine ⟨Pl, br_intro (fun _ => trivial) (fun nc => ?_)⟩
  have c00 : ctlL (decF []) = c0 := rfl
  have p00 : prgL (decF []) = false := by decide
  have nc : (ctlL l).nc = false := by simpa using nc
  simp only [c00, p00, us_none _ _ _ nc]
  refine ⟨⟨ia, by omega, by omega, by omega⟩, ⟨ib, by omega, by omega, by omega⟩, P0, P0, ?_⟩
  simp only [P, true_and]
  generalize inside now 0 2147483647 = A at *
  generalize inside later 0 2147483647 = B at *
  have h1 := age_in l asked came (min B A)
  have h2 := age_in l asked came (max B A)
  have h3 := age_mono l asked came (m := min B A) (n := max B A) (by omega) (by omega) (by omega)
  have h6 := life_in l came st sh
  rw [wr64_id (n := lifeL l came st sh - ageL l asked came (min B A)) (by unfold I64; omega)]
  generalize ageL l asked came (min B A) = X at *
  generalize ageL l asked came (max B A) = Y at *
  generalize lifeL l came st sh = F at *
  clear P0 P Pl
  by_cases k1 : X < F <;> by_cases k2 : Y < F <;> simp only [k1, k2, if_true, if_false] <;> (try omega)
  all_goals (have e1 : decide (F - X > 0) = decide (X < F) := by rw [decide_eq_decide]; omega)
  all_goals (rw [e1]; simp [k1, br])
theorem us_only (c d : Ct) (pg : Bool) (A F : Int) (h : d.on = true) : useI c d pg A F = 1 ∨ useI c d pg A F = 4 := by
  unfold useI
  rw [h]
  split
  · exact Or.inl rfl
  · exact Or.inr rfl
theorem ro_law (em es ea ep : ByteArray) (d : List Fl) (ek st : Int) (l : List Fl) (k2 : Int) (body : ByteArray) (asked came : Int) (qm qs qa qp : ByteArray) (q : List Fl) (qk now : Int) (sh : Nat)
    (z1 : em.size ≤ 1048576) (z2 : es.size ≤ 1048576) (z3 : ea.size ≤ 1048576) (z4 : ep.size ≤ 1048576) (hd : d.length ≤ 1048576) (hd2 : ∀ f ∈ d, f.n.length ≤ 1048576 ∧ f.v.length ≤ 1048576) (i1 : I64 ek) (i2 : I64 st) (hl : l.length ≤ 1048576) (hl2 : ∀ f ∈ l, f.n.length ≤ 1048576 ∧ f.v.length ≤ 1048576) (i3 : I64 k2) (z5 : body.size ≤ 1048576) (i4 : I64 asked) (i5 : I64 came)
    (z6 : qm.size ≤ 1048576) (z7 : qs.size ≤ 1048576) (z8 : qa.size ≤ 1048576) (z9 : qp.size ≤ 1048576) (hq : q.length ≤ 1048576) (hq2 : ∀ f ∈ q, f.n.length ≤ 1048576 ∧ f.v.length ≤ 1048576) (i6 : I64 qk) (ia : I64 now) :
    Con Try.prog 7 [.agg ⟨enT ⟨em, es, ea, ep, ek, st, k2, body, asked, came⟩ 0 d.length 1 l.length⟩, .agg ⟨rqT ⟨qm, qs, qa, qp, qk⟩ 2 q.length⟩, .int .i64 now, .float .f64 sh] [gRo enF d, gRo enF l, gRo enF q] (.bool true) [gRo enF d, gRo enF l, gRo enF q] := by
  refine con_vc (E := EtRo) mixed (calls_envT tRo_ok) (lok_envT _ _) (M := noM) lm_none (Rol_vc ⟨em, es, ea, ep, ek, st, k2, body, asked, came⟩ ⟨qm, qs, qa, qp, qk⟩ d l q now sh) ?_
  have hm : maxLen = 9223372036854775807 := by unfold maxLen; rfl
  simp only [ofNat_eq, toNat_cast, Nat.zero_add, Nat.add_zero, Nat.mul_one, List.drop_zero, bCells_len, bCells_drop, bCells_take, bCells_app, bCells_one, bCells_plain, List.length_replicate, List.length_append, List.length_take, List.length_drop, List.take_length, and_true, true_and, and_self, decide_true, List.length_nil, List.length_cons, Nat.sub_zero, dB_mk, dB_ro, List.take_zero, rT, fPl, fLen, fTake, lgR_mk, z_useR, z_noR, decF_gC, ctR]
  have sf : ∀ m : List Fl, ShortF m → m.length ≤ 1048576 → m.length * 2 ≤ m.length * 2 ∧ IsF ⟨gC enF m, true, .cells true⟩ m.length ∧ m.length ≤ 1048576 ∧ ShR ⟨gC enF m, true, .cells true⟩ := fun m h1 h2 => ⟨Nat.le_refl _, isF_mk _ _ rfl, h2, shR_mk _ _ _ h1⟩
  refine lift_br hd hd2 hl hl2 (fun g => ⟨sf q hq2 hq, br_intro (fun _ => trivial) (fun g2 => ?_)⟩)
  have g2 : lgB q = true := by simpa using g2
  have n2 : lgN q ≤ 2000 := by unfold lgB at g2; simpa using g2
  have e4 : (⟨#[99, 97, 99, 104, 101, 45, 99, 111, 110, 116, 114, 111, 108]⟩ : ByteArray) = bs sCC := rfl
  have e5 : (⟨#[111, 110, 108, 121, 45, 105, 102, 45, 99, 97, 99, 104, 101, 100]⟩ : ByteArray) = bs sOnly := rfl
  have r1 : ∀ l b o, alV ⟨gC enF l, b, o⟩ (bs sCC) = bs (allL l sCC) := fun l b o => by unfold alV; simp only; rw [decF_gC, L_bs]
  have r2 : ∀ l b o, alB ⟨gC enF l, b, o⟩ (bs sCC) = (allL l sCC).length := fun l b o => by unfold alB; simp only; rw [decF_gC, L_bs]
  have tk : List.take ((q.length + 1) * 2) (List.take (q.length * 2) ([] ++ gC enF q) ++ [Value.string (bs sCC), Value.string (bs sOnly)]) = gC enF (q ++ [⟨sCC, sOnly⟩]) := by
    rw [List.nil_append, fTake, show [Value.string (bs sCC), Value.string (bs sOnly)] = gC enF [⟨sCC, sOnly⟩] from rfl, gC_app]
    have := fTake (q ++ [⟨sCC, sOnly⟩])
    rwa [List.length_append] at this
  simp only [e4, e5, r1, r2, tk, fPl, okS_bs, elC_bs, sPl, bs_len, L_bs, decF_gC]
  have hA := allL_le q sCC
  have hon : okF sCC [⟨sCC, sOnly⟩] = true := by decide
  refine ⟨⟨Nat.le_refl _, isF_mk _ _ rfl, by omega, by omega⟩, ⟨trivial, by omega⟩, br_intro (fun _ => trivial) (fun ok => ?_)⟩
  have ok : okF sCC q = true := by unfold okF; simpa using ok
  obtain ⟨j1, j2, j3, j4, j5, j6, j7, j8, j9, j10⟩ := ctl_join (pairsL q sCC) (pairsL [⟨sCC, sOnly⟩] sCC)
  rw [← ctlL_app q _ ok hon] at j6
  have on : (ctlL (q ++ [⟨sCC, sOnly⟩])).on = true := by rw [j6, show (ctlP (pairsL [⟨sCC, sOnly⟩] sCC)).on = true by decide]; simp
  have bg : BgL (q ++ [⟨sCC, sOnly⟩]) := fun nm => by
    have := allL_le (q ++ [⟨sCC, sOnly⟩]) nm
    rw [lgN_app, show lgN [⟨sCC, sOnly⟩] = 28 by decide] at this
    omega
  have iq : IsF ⟨gC enF (q ++ [⟨sCC, sOnly⟩]), true, .cells true⟩ (q.length + 1) := isF_mk _ _ (by simp)
  have hu := us_only (ctlL l) (ctlL (q ++ [⟨sCC, sOnly⟩])) (prgL (q ++ [⟨sCC, sOnly⟩])) (ageL l asked came now) (lifeL l came st sh) on
  have Q : ((q.length + 1) * 2 ≤ min (q.length * 2) (q.length * 2) + (1 + 1) ∧ True) ∧ IsF ⟨gC enF (q ++ [⟨sCC, sOnly⟩]), true, .cells true⟩ (q.length + 1) ∧ q.length + 1 ≤ 9223372036854775807 ∧ BgR ⟨gC enF (q ++ [⟨sCC, sOnly⟩]), true, .cells true⟩ := ⟨⟨by omega, trivial⟩, iq, by omega, bgR_mk _ _ _ bg⟩
  simp only [and_true] at Q
  refine br_dec (by omega) (br_b (fOne _) (br_dec (by omega) (br_dec (by omega) (br_dec (by omega) ?_))))
  have W : ((q.length + 1) * 2 ≤ min (q.length * 2) (q.length * 2) + (1 + 1) ∧ True) ∧ IsF ⟨gC enF (q ++ [⟨sCC, sOnly⟩]), true, .cells true⟩ (q.length + 1) ∧ q.length + 1 ≤ 9223372036854775807 ∧ BgR ⟨gC enF (q ++ [⟨sCC, sOnly⟩]), true, .cells true⟩ := ⟨⟨Q.1, trivial⟩, Q.2⟩
  refine ⟨⟨⟨⟨Nat.le_refl _, Nat.le_refl _⟩, by omega, trivial⟩, isF_mk _ _ rfl, isF_mk _ _ rfl, iq, by omega, by omega, by omega, bgR_mk _ _ _ (lg_bg g), bgR_mk _ _ _ bg⟩, ?_⟩
  refine br_intro (fun _ => ⟨W, br_b (by rw [on]; rfl) trivial⟩) (fun h => br_b ?_ ⟨W, br_b (by rw [on]; rfl) trivial⟩)
  rcases hu with hu | hu
  · rw [hu] at h; simp at h
  · rw [hu]; rfl
end Go.Proofs.Ytajfdcijpchjdaa.tk
