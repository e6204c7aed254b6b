/- The law: any entry, any request, at any time. -/
import Derived.Test.YtajfdcijpchjdaaSz9
import Derived.Test.YtajfdcijpchjdaaRows
import Derived.Test.YtajfdcijpchjdaaLmRu
set_option maxRecDepth 20000
set_option linter.unusedSimpArgs false
set_option linter.unusedVariables false
namespace Go.Proofs.Ytajfdcijpchjdaa.tk
open Go Go.Ev Go.Sy Go.RowKit Go.Proofs.Ytajfdcijpchjdaa.gl
noncomputable def useR (r1 r2 : Row) (asked came st now : Int) (sh : Nat) : Int := Classical.choose (int_ex (useI (ctlL (decF r1.cells)) (ctlL (decF r2.cells)) (prgL (decF r2.cells)) (ageL (decF r1.cells) asked came now) (lifeL (decF r1.cells) came st sh)))
noncomputable def noR (r : Row) : Int := Classical.choose (int_ex (if (ctlL (decF r.cells)).on then 4 else 3))
noncomputable def eLgF : EntM := entC 12 fun a r => match a, r with
  | [.slice (some ⟨0, 0, none⟩) n 2], [r0] => some (IsF r0 n ∧ n ≤ 1048576 ∧ ShR r0, .bool (lgR r0), [])
  | _, _ => none
noncomputable def eRuns : EntM := entC 3 fun a r => match a, r with
  | [], [] => some (True, .bool true, [])
  | _, _ => none
noncomputable def eNo : EntM := entC 10 fun a r => match a, r with
  | [.agg ⟨[.string m, .string s, .string a, .string p, .slice (some ⟨0, 0, none⟩) n 2, .int .i64 k]⟩], [r] => some (IsF r n ∧ n ≤ maxLen ∧ BgR r, .int .i64 (noR r), [])
  | _, _ => none
noncomputable def eUs : EntM := entC 14 fun a r => match a, r with
  | [.agg ⟨[.string m, .string s, .string a, .string p, .slice (some ⟨0, 0, none⟩) n0 2, .int .i64 k, .int .i64 st, .slice (some ⟨1, 0, none⟩) n 2, .int .i64 k2, .string body, .int .i64 asked, .int .i64 came]⟩, .agg ⟨[.string qm, .string qs, .string qa, .string qp, .slice (some ⟨2, 0, none⟩) nq 2, .int .i64 qk]⟩, .int .i64 now, .float .f64 sh], [r0, r, rq] => some (IsF r0 n0 ∧ IsF r n ∧ IsF rq nq ∧ n0 ≤ maxLen ∧ n ≤ maxLen ∧ nq ≤ maxLen ∧ BgR r ∧ BgR rq, .int .i64 (useR r rq asked came st now sh), [])
  | _, _ => none
noncomputable def eUr : EntM := entC 15 fun a r => match a, r with
  | [.agg ⟨[.string m, .string s, .string a, .string p, .slice (some ⟨0, 0, none⟩) n0 2, .int .i64 k, .int .i64 st, .slice (some ⟨1, 0, none⟩) n 2, .int .i64 k2, .string body, .int .i64 asked, .int .i64 came]⟩, .agg ⟨[.string qm, .string qs, .string qa, .string qp, .slice (some ⟨2, 0, none⟩) nq 2, .int .i64 qk]⟩, .int .i64 now, .float .f64 sh], [r0, r, rq] => some (IsF r0 n0 ∧ IsF r n ∧ IsF rq nq ∧ n0 ≤ maxLen ∧ n ≤ maxLen ∧ nq ≤ maxLen ∧ BgR r ∧ BgR rq, .int .i64 (useR r rq asked came st now sh), [])
  | _, _ => none
noncomputable def tRt : List EntM := [eLgF, eRuns, eNo, eUs, eUr, eCoR]
noncomputable abbrev EtRt : Env := envT Try.prog tRt
theorem Rt_vc (x : En12) (y : Rq6) (d l q : List Fl) (now : Int) (sh : Nat) : mcall EtRt noM 60 4 [.agg ⟨enT x 0 d.length 1 l.length⟩, .agg ⟨rqT y 2 q.length⟩, .int .i64 now, .float .f64 sh] ⟨mkR (nums 0 [gRo enF d, gRo enF l, gRo enF q]), 3⟩ (retIs 3 (.bool true) [gRo enF d, gRo enF l, gRo enF q]) =
  let z1 := (Value.agg (Array.mk [Value.string x.1, Value.string x.2, Value.string x.3, Value.string x.4, Value.slice (some (Addr.mk 0 0 none)) (List.length d) 2, Value.int
  IntKind.i64 x.5, Value.int IntKind.i64 x.6, Value.slice (some (Addr.mk 1 0 none)) (List.length l) 2, Value.int IntKind.i64 x.7, Value.string x.8, Value.int IntKind.i64
  x.9, Value.int IntKind.i64 x.10]) = Value.agg (Array.mk [Value.string x.1, Value.string x.2, Value.string x.3, Value.string x.4, Value.slice (some (Addr.mk 0 0 none))
  (List.length d) 2, Value.int IntKind.i64 x.5, Value.int IntKind.i64 x.6, Value.slice (some (Addr.mk 1 0 none)) (List.length l) 2, Value.int IntKind.i64 x.7, Value.string
  x.8, Value.int IntKind.i64 x.9, Value.int IntKind.i64 x.10])); let z2 := (Value.agg (Array.mk [Value.string y.1, Value.string y.2, Value.string y.3, Value.string y.4,
  Value.slice (some (Addr.mk 2 0 none)) (List.length q) 2, Value.int IntKind.i64 y.5]) = Value.agg (Array.mk [Value.string y.1, Value.string y.2, Value.string y.3,
  Value.string y.4, Value.slice (some (Addr.mk 2 0 none)) (List.length q) 2, Value.int IntKind.i64 y.5])); let z5 := (0 + List.length q * 2 <= List.length (gC enF q) /\
  Plain (List.take (List.length q * 2) (List.drop 0 (gC enF q)))); let z3 := ((((True /\ (True /\ (True /\ (True /\ ((0 + List.length d * 2 <= List.length (gC enF d) /\
  Plain (List.take (List.length d * 2) (List.drop 0 (gC enF d)))) /\ (True /\ (True /\ ((0 + List.length l * 2 <= List.length (gC enF l) /\ Plain (List.take (List.length l *
  2) (List.drop 0 (gC enF l)))) /\ (True /\ (True /\ (True /\ (True /\ True)))))))))))) /\ ((True /\ (True /\ (True /\ (True /\ (z5 /\ (True /\ True)))))) /\ (True /\ (True
  /\ True)))) /\ ((True /\ (True /\ (True /\ True))) /\ (True /\ (IsF (rT d) (List.length d) /\ (IsF (rT l) (List.length l) /\ (IsF (rT q) (List.length q) /\ (List.length d
  <= 9223372036854775807 /\ (List.length l <= 9223372036854775807 /\ (List.length q <= 9223372036854775807 /\ (BgR (rT l) /\ BgR (rT q)))))))))))); let z4 := ((Eq (α := List
  Value) (gC enF d) (gC enF d)) /\ ((Plain (gC enF d)) /\ ((Eq (α := List Value) (gC enF l) (gC enF l)) /\ ((Plain (gC enF l)) /\ ((Eq (α := List Value) (gC enF q) (gC enF
  q)) /\ ((Plain (gC enF q)) /\ True)))))); let z6 := ((True /\ True) /\ (True /\ (IsF (rT q) (List.length q) /\ (List.length q <= 9223372036854775807 /\ BgR (rT q))))); let
  z7 := (((True /\ (True /\ (True /\ True)))) /\ ((true = true) /\ z4)); let z8 := (((True /\ (True /\ (True /\ True)))) /\ (z1 /\ (z2 /\ (z1 /\ (z1 /\ (z2 /\ (z2 /\ (z2 /\
  ((true = true) /\ z4))))))))); let z9 := (useR (rT l) (rT q) x.9 x.10 x.6 now sh == useR (rT l) (rT q) x.9 x.10 x.6 now sh); let z10 := ((((True /\ (True /\ (True /\ (True
  /\ (z5 /\ (True /\ True)))))) /\ True) /\ z6)); let z11 := (z1 /\ (z2 /\ (z1 /\ (z1 /\ (z2 /\ (z2 /\ (z2 /\ ((true = false) /\ z4)))))))); let z12 := (z1 /\ (z2 /\ (z1 /\
  (z1 /\ (z2 /\ (z2 /\ ((true = false) /\ z4))))))); (((((0 + List.length d * 2 <= List.length (gC enF d) /\ Plain (List.take (List.length d * 2) (List.drop 0 (gC enF d))))
  /\ True) /\ ((True /\ True) /\ (True /\ (IsF (rT d) (List.length d) /\ (List.length d <= 1048576 /\ ShR (rT d))))))) /\ (br (lgR (rT d)) (((((0 + List.length l * 2 <=
  List.length (gC enF l) /\ Plain (List.take (List.length l * 2) (List.drop 0 (gC enF l)))) /\ True) /\ ((True /\ True) /\ (True /\ (IsF (rT l) (List.length l) /\
  (List.length l <= 1048576 /\ ShR (rT l))))))) /\ (br (lgR (rT l)) (br (!decide (Int.ofNat (List.length x.8.1.1) <= (2000 : Int))) z7 ((((z5 /\ True) /\ ((True /\ True) /\
  (True /\ (IsF (rT q) (List.length q) /\ (List.length q <= 1048576 /\ ShR (rT q))))))) /\ (br (!lgR (rT q)) z7 ((((z5 /\ True) /\ z6)) /\ (br ((ctR (rT q)).6) (z3 /\ (z3 /\
  (br z9 (z10 /\ (br (noR (rT q) == (4 : Int)) z8 z11)) z12))) (z3 /\ (z3 /\ (br z9 (z10 /\ (br (noR (rT q) == (3 : Int)) z8 z11)) z12)))))))) z7)) z7)) := by kernel_rfl
theorem z_useR (r1 r2 : Row) (asked came st now : Int) (sh : Nat) : useR r1 r2 asked came st now sh = useI (ctlL (decF r1.cells)) (ctlL (decF r2.cells)) (prgL (decF r2.cells)) (ageL (decF r1.cells) asked came now) (lifeL (decF r1.cells) came st sh) := Classical.choose_spec (int_ex _)
theorem z_noR (r : Row) : noR r = if (ctlL (decF r.cells)).on then 4 else 3 := Classical.choose_spec (int_ex _)
theorem eLgF_ok : EntOk Try.prog eLgF := entC_ok (by
  intro a rows p v news h hp
  split at h <;> simp only [Option.some.injEq, Prod.mk.injEq, reduceCtorEq] at h
  obtain ⟨rfl, rfl, rfl⟩ := h
  obtain ⟨⟨l, rfl, rfl⟩, h1, h2⟩ := hp
  simp only [lgR, ShR, dF0, List.append_nil] at h2 ⊢
  exact Lg_con l h1 h2)
theorem eRuns_ok : EntOk Try.prog eRuns := entC_ok (by
  intro a rows p v news h hp
  split at h <;> simp only [Option.some.injEq, Prod.mk.injEq, reduceCtorEq] at h
  obtain ⟨rfl, rfl, rfl⟩ := h
  exact con_run mixed (n := 1000000) (by kernel_rfl) (by kernel_rfl))
theorem eNo_ok : EntOk Try.prog eNo := entC_ok (by
  intro a rows p v news h hp
  split at h <;> simp only [Option.some.injEq, Prod.mk.injEq, reduceCtorEq] at h
  obtain ⟨rfl, rfl, rfl⟩ := h
  obtain ⟨⟨q, rfl, rfl⟩, h1, h2⟩ := hp
  simp only [z_noR, BgR, dF0, List.append_nil] at h2 ⊢
  exact no_con ⟨_, _, _, _, _⟩ q h1 h2)
theorem eUs_ok : EntOk Try.prog eUs := entC_ok (by
  intro a rows p v news h hp
  split at h <;> simp only [Option.some.injEq, Prod.mk.injEq, reduceCtorEq] at h
  obtain ⟨rfl, rfl, rfl⟩ := h
  obtain ⟨⟨d, rfl, rfl⟩, ⟨l, rfl, rfl⟩, ⟨q, rfl, rfl⟩, h1, h2, h3, h4, h5⟩ := hp
  simp only [z_useR, BgR, dF0, List.append_nil] at h4 h5 ⊢
  exact us_con ⟨_, _, _, _, _, _, _, _, _, _⟩ ⟨_, _, _, _, _⟩ d l q _ _ h1 h2 h3 h4 h5)
theorem eUr_ok : EntOk Try.prog eUr := entC_ok (by
  intro a rows p v news h hp
  split at h <;> simp only [Option.some.injEq, Prod.mk.injEq, reduceCtorEq] at h
  obtain ⟨rfl, rfl, rfl⟩ := h
  obtain ⟨⟨d, rfl, rfl⟩, ⟨l, rfl, rfl⟩, ⟨q, rfl, rfl⟩, h1, h2, h3, h4, h5⟩ := hp
  simp only [z_useR, BgR, dF0, List.append_nil] at h4 h5 ⊢
  exact rr_con ⟨_, _, _, _, _, _, _, _, _, _⟩ ⟨_, _, _, _, _⟩ d l q _ _ h1 h2 h3 h4 h5)
theorem tRt_ok : ∀ x ∈ tRt, EntOk Try.prog x := all_cons eLgF_ok (all_cons eRuns_ok (all_cons eNo_ok (all_cons eUs_ok (all_cons eUr_ok (all_cons eCoR_ok (all_nil))))))
theorem rt_law (em es ea ep : ByteArray) (d : List Fl) (ek st : Int) (l : List Fl) (k2 : Int) (body : ByteArray) (asked came : Int) (qm qs qa qp : ByteArray) (q : List Fl) (qk now : Int) (sh : Nat)
    (z1 : em.size ≤ 1048576) (z2 : es.size ≤ 1048576) (z3 : ea.size ≤ 1048576) (z4 : ep.size ≤ 1048576) (hd : d.length ≤ 1048576) (hd2 : ∀ f ∈ d, f.n.length ≤ 1048576 ∧ f.v.length ≤ 1048576) (i1 : I64 ek) (i2 : I64 st) (hl : l.length ≤ 1048576) (hl2 : ∀ f ∈ l, f.n.length ≤ 1048576 ∧ f.v.length ≤ 1048576) (i3 : I64 k2) (z5 : body.size ≤ 1048576) (i4 : I64 asked) (i5 : I64 came)
    (z6 : qm.size ≤ 1048576) (z7 : qs.size ≤ 1048576) (z8 : qa.size ≤ 1048576) (z9 : qp.size ≤ 1048576) (hq : q.length ≤ 1048576) (hq2 : ∀ f ∈ q, f.n.length ≤ 1048576 ∧ f.v.length ≤ 1048576) (i6 : I64 qk) (ia : I64 now) :
    Con Try.prog 4 [.agg ⟨enT ⟨em, es, ea, ep, ek, st, k2, body, asked, came⟩ 0 d.length 1 l.length⟩, .agg ⟨rqT ⟨qm, qs, qa, qp, qk⟩ 2 q.length⟩, .int .i64 now, .float .f64 sh] [gRo enF d, gRo enF l, gRo enF q] (.bool true) [gRo enF d, gRo enF l, gRo enF q] := by
  refine con_vc (E := EtRt) mixed (calls_envT tRt_ok) (lok_envT _ _) (M := noM) lm_none (Rt_vc ⟨em, es, ea, ep, ek, st, k2, body, asked, came⟩ ⟨qm, qs, qa, qp, qk⟩ d l q now sh) ?_
  have hm : maxLen = 9223372036854775807 := by unfold maxLen; rfl
  simp only [ofNat_eq, toNat_cast, Nat.zero_add, Nat.add_zero, Nat.mul_one, List.drop_zero, bCells_len, bCells_drop, bCells_take, bCells_app, bCells_one, bCells_plain, List.length_replicate, List.length_append, List.length_take, List.length_drop, List.take_length, and_true, true_and, and_self, decide_true, List.length_nil, List.length_cons, Nat.sub_zero, dB_mk, dB_ro, List.take_zero, rT, fPl, fLen, fTake, lgR_mk, z_useR, z_noR, decF_gC, ctR]
  have sf : ∀ m : List Fl, ShortF m → m.length ≤ 1048576 → m.length * 2 ≤ m.length * 2 ∧ IsF ⟨gC enF m, true, .cells true⟩ m.length ∧ m.length ≤ 1048576 ∧ ShR ⟨gC enF m, true, .cells true⟩ := fun m h1 h2 => ⟨Nat.le_refl _, isF_mk _ _ rfl, h2, shR_mk _ _ _ h1⟩
  refine lift_br hd hd2 hl hl2 (fun g => ⟨sf q hq2 hq, br_intro (fun _ => trivial) (fun g2 => ?_)⟩)
  have g2 : lgB q = true := by simpa using g2
  have hb := lg_bg g
  have hbq := lg_bg g2
  have Pq : q.length * 2 ≤ q.length * 2 ∧ IsF ⟨gC enF q, true, .cells true⟩ q.length ∧ q.length ≤ 9223372036854775807 ∧ BgR ⟨gC enF q, true, .cells true⟩ := ⟨Nat.le_refl _, isF_mk _ _ rfl, by omega, bgR_mk _ _ _ hbq⟩
  have P : ((d.length * 2 ≤ d.length * 2 ∧ l.length * 2 ≤ l.length * 2) ∧ q.length * 2 ≤ q.length * 2) ∧ IsF ⟨gC enF d, true, .cells true⟩ d.length ∧ IsF ⟨gC enF l, true, .cells true⟩ l.length ∧ IsF ⟨gC enF q, true, .cells true⟩ q.length ∧ d.length ≤ 9223372036854775807 ∧ l.length ≤ 9223372036854775807 ∧ q.length ≤ 9223372036854775807 ∧ BgR ⟨gC enF l, true, .cells true⟩ ∧ BgR ⟨gC enF q, true, .cells true⟩ := ⟨⟨⟨Nat.le_refl _, Nat.le_refl _⟩, Nat.le_refl _⟩, isF_mk _ _ rfl, isF_mk _ _ rfl, isF_mk _ _ rfl, by omega, by omega, by omega, bgR_mk _ _ _ hb, bgR_mk _ _ _ hbq⟩
  refine ⟨Pq, br_intro (fun h => ⟨P, P, br_b (by simp) ⟨Pq, br_b (by rw [h]; rfl) trivial⟩⟩) (fun h => ⟨P, P, br_b (by simp) ⟨Pq, br_b (by rw [h]; rfl) trivial⟩⟩)⟩
end Go.Proofs.Ytajfdcijpchjdaa.tk
