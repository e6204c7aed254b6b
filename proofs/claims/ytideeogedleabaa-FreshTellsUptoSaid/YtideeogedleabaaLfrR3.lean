/- How long a response is fresh, how old it is: the document. -/
import Derived.Test.YtideeogedleabaaSz9
import Derived.Test.YtideeogedleabaaRows
import Derived.Test.YtideeogedleabaaLfrB3
import Derived.Test.YtideeogedleabaaLrtCtl
import Derived.Test.YtideeogedleabaaLrtDay3
set_option maxRecDepth 20000
set_option linter.unusedSimpArgs false
set_option linter.unusedVariables false
namespace Go.Proofs.Ytideeogedleabaa.tk
open Go Go.Ev Go.Sy Go.RowKit Go.Proofs.Ytideeogedleabaa.gl
noncomputable def eRdR : EntM := entC 53 fun a r => match a, r with
  | [.string s], [] => some ((L s).length ≤ maxLen, .tuple #[.int .i64 (rdJ s), .bool (rdC s)], [])
  | _, _ => none
noncomputable def eCoR : EntM := entC 31 fun a r => match a, r with
  | [.slice (some ⟨0, 0, none⟩) n 2], [r0] => some (IsF r0 n ∧ n ≤ maxLen ∧ BgR r0, .agg ⟨enC (ctR r0)⟩, [])
  | _, _ => none
noncomputable def eNu : EntM := entC 39 fun a r => match a, r with
  | [.string s], [] => some ((L s).length ≤ maxLen, .int .i64 (secS s), [])
  | _, _ => none
noncomputable def ePlR : EntM := entC 35 fun a r => match a, r with
  | [.int .i64 n], [] => some (True, .bool (plB n), [])
  | _, _ => none
noncomputable def eShR : EntM := entC 36 fun a r => match a, r with
  | [.int .i64 n, .float .f64 b], [] => some (True, .int .i64 (Go.Proofs.Ytideeogedleabaa.fl.share n b), [])
  | _, _ => none
noncomputable def eClR : EntM := entC 37 fun a r => match a, r with
  | [.int .i64 n], [] => some (True, .int .i64 (limR n), [])
  | _, _ => none
noncomputable def eWh : EntM := entC 33 fun a r => match a, r with
  | [.slice (some ⟨0, 0, none⟩) n 2, .string s], [r0] => some (IsF r0 n ∧ n ≤ maxLen ∧ BgR r0, .tuple #[.int .i64 (dtI r0 s), .bool (dtB r0 s)], [])
  | _, _ => none
noncomputable def eDa : EntM := entC 34 fun a r => match a, r with
  | [.agg ⟨[.string m, .string s, .string a, .string p, .slice (some ⟨0, 0, none⟩) n0 2, .int .i64 k, .int .i64 st, .slice (some ⟨1, 0, none⟩) n 2, .int .i64 k2, .string body, .int .i64 asked, .int .i64 came]⟩], [r0, r] => some (IsF r0 n0 ∧ IsF r n ∧ n0 ≤ maxLen ∧ n ≤ maxLen ∧ BgR r, .int .i64 (orR r came), [])
  | _, _ => none
noncomputable def eLiR : EntM := entC 15 fun a r => match a, r with
  | [.agg ⟨[.string m, .string s, .string a, .string p, .slice (some ⟨0, 0, none⟩) n0 2, .int .i64 k, .int .i64 st, .slice (some ⟨1, 0, none⟩) n 2, .int .i64 k2, .string body, .int .i64 asked, .int .i64 came]⟩, .float .f64 sh], [r0, r] => some (IsF r0 n0 ∧ IsF r n ∧ n0 ≤ maxLen ∧ n ≤ maxLen ∧ BgR r, .int .i64 (lifeR r came st sh), [])
  | _, _ => none
noncomputable def eAgR : EntM := entC 16 fun a r => match a, r with
  | [.agg ⟨[.string m, .string s, .string a, .string p, .slice (some ⟨0, 0, none⟩) n0 2, .int .i64 k, .int .i64 st, .slice (some ⟨1, 0, none⟩) n 2, .int .i64 k2, .string body, .int .i64 asked, .int .i64 came]⟩, .int .i64 now], [r0, r] => some (IsF r0 n0 ∧ IsF r n ∧ n0 ≤ maxLen ∧ n ≤ maxLen ∧ BgR r, .int .i64 (ageR r asked came now), [])
  | _, _ => none
noncomputable def tRa : List EntM := [eAlR, eRdR]
noncomputable abbrev EtRa : Env := envT Try.prog tRa
noncomputable def tRb : List EntM := [eAlR, eWh, eCoR, eNu, ePlR, eShR, eClR]
noncomputable abbrev EtRb : Env := envT Try.prog tRb
noncomputable def tRc : List EntM := [eAlR, eWh, eCoR, eNu, ePlR, eShR, eClR, eDa]
noncomputable abbrev EtRc : Env := envT Try.prog tRc
theorem Wh_vc (l : List Fl) (s : List UInt8) (v : Int) (b : Bool) : mcall EtRa noM 60 33 [.slice (some ⟨0, 0, none⟩) l.length 2, .string (bs s)] ⟨mkR (nums 0 [gRo enF l]), 1⟩ (retIs 1 (.tuple #[.int .i64 v, .bool b]) [gRo enF l]) =
  let z1 := ((Eq (α := List Value) (gC enF l) (gC enF l)) /\ ((Plain (gC enF l)) /\ True)); (((((0 + List.length l * 2 <= List.length (gC enF l) /\ Plain (List.take
  (List.length l * 2) (List.drop 0 (gC enF l)))) /\ (True /\ True)) /\ ((True /\ True) /\ (True /\ (IsF (rT l) (List.length l) /\ (List.length l <= 9223372036854775807 /\
  alB (rT l) (bs s) <= 16777216)))))) /\ (br (!alN (rT l) (bs s) == (1 : Int)) ((v = (0 : Int)) /\ ((b = false) /\ z1)) ((((True /\ True) /\ (True /\ (True /\ List.length (L
  (alV (rT l) (bs s))) <= 9223372036854775807)))) /\ ((v = rdJ (alV (rT l) (bs s))) /\ ((b = rdC (alV (rT l) (bs s))) /\ z1))))) := by kernel_rfl
theorem Da_vc (x : En12) (d l : List Fl) (v : Int) : mcall EtRb noM 60 34 [.agg ⟨enT x 0 d.length 1 l.length⟩] ⟨mkR (nums 0 [gRo enF d, gRo enF l]), 2⟩ (retIs 2 (.int .i64 v) [gRo enF d, gRo enF l]) =
  let z1 := ((Eq (α := List Value) (gC enF d) (gC enF d)) /\ ((Plain (gC enF d)) /\ ((Eq (α := List Value) (gC enF l) (gC enF l)) /\ ((Plain (gC enF l)) /\ True)))); (((((0
  + List.length l * 2 <= List.length (gC enF l) /\ Plain (List.take (List.length l * 2) (List.drop 0 (gC enF l)))) /\ (True /\ True)) /\ ((True /\ True) /\ (True /\ (IsF (rT
  l) (List.length l) /\ (List.length l <= 9223372036854775807 /\ BgR (rT l))))))) /\ (br (dtB (rT l) (ByteArray.mk #[100, 97, 116, 101])) ((v = dtI (rT l) (ByteArray.mk
  #[100, 97, 116, 101])) /\ z1) ((v = if (if (2147483647 : Int) < x.10 then (2147483647 : Int) else x.10) > (0 : Int) then if (2147483647 : Int) < x.10 then (2147483647 :
  Int) else x.10 else (0 : Int)) /\ z1))) := by kernel_rfl
theorem Lr_vc (x : En12) (d l : List Fl) (sh : Nat) (v : Int) : mcall EtRc noM 60 15 [.agg ⟨enT x 0 d.length 1 l.length⟩, .float .f64 sh] ⟨mkR (nums 0 [gRo enF d, gRo enF l]), 2⟩ (retIs 2 (.int .i64 v) [gRo enF d, gRo enF l]) =
  let z3 := (0 + List.length l * 2 <= List.length (gC enF l) /\ Plain (List.take (List.length l * 2) (List.drop 0 (gC enF l)))); let z1 := ((((True /\ (True /\ (True /\
  (True /\ ((0 + List.length d * 2 <= List.length (gC enF d) /\ Plain (List.take (List.length d * 2) (List.drop 0 (gC enF d)))) /\ (True /\ (True /\ (z3 /\ (True /\ (True /\
  (True /\ (True /\ True)))))))))))) /\ True) /\ ((True /\ (True /\ True)) /\ (True /\ (IsF (rT d) (List.length d) /\ (IsF (rT l) (List.length l) /\ (List.length d <=
  9223372036854775807 /\ (List.length l <= 9223372036854775807 /\ BgR (rT l))))))))); let z2 := ((Eq (α := List Value) (gC enF d) (gC enF d)) /\ ((Plain (gC enF d)) /\ ((Eq
  (α := List Value) (gC enF l) (gC enF l)) /\ ((Plain (gC enF l)) /\ True)))); let z4 := ((True /\ True) /\ (True /\ (IsF (rT l) (List.length l) /\ (List.length l <=
  9223372036854775807 /\ BgR (rT l))))); let z5 := (ByteArray.mk #[101, 120, 112, 105, 114, 101, 115]); let z6 := (ByteArray.mk #[108, 97, 115, 116, 45, 109, 111, 100, 105,
  102, 105, 101, 100]); ((((z3 /\ True) /\ z4)) /\ (br (decide ((ctR (rT l)).8 ≥ (0 : Int))) ((v = (ctR (rT l)).8) /\ z2) (br (decide ((ctR (rT l)).7 ≥ (0 : Int))) ((v =
  (ctR (rT l)).7) /\ z2) ((((z3 /\ (True /\ True)) /\ ((True /\ True) /\ (True /\ (IsF (rT l) (List.length l) /\ (List.length l <= 9223372036854775807 /\ alB (rT l) z5 <=
  16777216)))))) /\ (br (decide (alN (rT l) z5 > (0 : Int))) ((((z3 /\ (True /\ True)) /\ z4)) /\ (br (!dtB (rT l) z5) ((v = (0 : Int)) /\ z2) (z1 /\ ((v = if IntKind.wrap
  IntKind.i64 (dtI (rT l) z5 - orR (rT l) x.10) > (0 : Int) then IntKind.wrap IntKind.i64 (dtI (rT l) z5 - orR (rT l) x.10) else (0 : Int)) /\ z2)))) ((((z3 /\ (True /\
  True)) /\ z4)) /\ (br (dtB (rT l) z6) ((((True /\ True) /\ (True /\ (True /\ True)))) /\ (br (plB x.6) (z1 /\ (br (decide (dtI (rT l) z6 <= orR (rT l) x.10)) (z1 /\
  ((((True /\ (True /\ True)) /\ (True /\ (True /\ True)))) /\ ((v = fl.share (IntKind.wrap IntKind.i64 (orR (rT l) x.10 - dtI (rT l) z6)) sh) /\ z2))) ((v = (0 : Int)) /\
  z2))) ((v = (0 : Int)) /\ z2))) ((v = (0 : Int)) /\ z2)))))))) := by kernel_rfl
theorem Ar_vc (x : En12) (d l : List Fl) (now : Int) (v : Int) : mcall EtRc noM 60 16 [.agg ⟨enT x 0 d.length 1 l.length⟩, .int .i64 now] ⟨mkR (nums 0 [gRo enF d, gRo enF l]), 2⟩ (retIs 2 (.int .i64 v) [gRo enF d, gRo enF l]) =
  let z1 := (IntKind.wrap IntKind.i64 ((if (0 : Int) > if IntKind.wrap IntKind.i64 (IntKind.wrap IntKind.i64 ((if secS (alV (rT l) (ByteArray.mk #[97, 103, 101])) > (0 :
  Int) then secS (alV (rT l) (ByteArray.mk #[97, 103, 101])) else (0 : Int)) + if limR x.10 > limR x.9 then limR x.10 else limR x.9) - limR x.9) > IntKind.wrap IntKind.i64
  ((if limR x.10 > limR x.9 then limR x.10 else limR x.9) - orR (rT l) x.10) then IntKind.wrap IntKind.i64 (IntKind.wrap IntKind.i64 ((if secS (alV (rT l) (ByteArray.mk
  #[97, 103, 101])) > (0 : Int) then secS (alV (rT l) (ByteArray.mk #[97, 103, 101])) else (0 : Int)) + if limR x.10 > limR x.9 then limR x.10 else limR x.9) - limR x.9)
  else IntKind.wrap IntKind.i64 ((if limR x.10 > limR x.9 then limR x.10 else limR x.9) - orR (rT l) x.10) then (0 : Int) else if IntKind.wrap IntKind.i64 (IntKind.wrap
  IntKind.i64 ((if secS (alV (rT l) (ByteArray.mk #[97, 103, 101])) > (0 : Int) then secS (alV (rT l) (ByteArray.mk #[97, 103, 101])) else (0 : Int)) + if limR x.10 > limR
  x.9 then limR x.10 else limR x.9) - limR x.9) > IntKind.wrap IntKind.i64 ((if limR x.10 > limR x.9 then limR x.10 else limR x.9) - orR (rT l) x.10) then IntKind.wrap
  IntKind.i64 (IntKind.wrap IntKind.i64 ((if secS (alV (rT l) (ByteArray.mk #[97, 103, 101])) > (0 : Int) then secS (alV (rT l) (ByteArray.mk #[97, 103, 101])) else (0 :
  Int)) + if limR x.10 > limR x.9 then limR x.10 else limR x.9) - limR x.9) else IntKind.wrap IntKind.i64 ((if limR x.10 > limR x.9 then limR x.10 else limR x.9) - orR (rT
  l) x.10)) + if (if limR x.10 > limR x.9 then limR x.10 else limR x.9) > limR now then if limR x.10 > limR x.9 then limR x.10 else limR x.9 else limR now) - if limR x.10 >
  limR x.9 then limR x.10 else limR x.9); let z2 := (IntKind.wrap IntKind.i64 ((if (0 : Int) > if IntKind.wrap IntKind.i64 (IntKind.wrap IntKind.i64 ((0 : Int) + if limR
  x.10 > limR x.9 then limR x.10 else limR x.9) - limR x.9) > IntKind.wrap IntKind.i64 ((if limR x.10 > limR x.9 then limR x.10 else limR x.9) - orR (rT l) x.10) then
  IntKind.wrap IntKind.i64 (IntKind.wrap IntKind.i64 ((0 : Int) + if limR x.10 > limR x.9 then limR x.10 else limR x.9) - limR x.9) else IntKind.wrap IntKind.i64 ((if limR
  x.10 > limR x.9 then limR x.10 else limR x.9) - orR (rT l) x.10) then (0 : Int) else if IntKind.wrap IntKind.i64 (IntKind.wrap IntKind.i64 ((0 : Int) + if limR x.10 > limR
  x.9 then limR x.10 else limR x.9) - limR x.9) > IntKind.wrap IntKind.i64 ((if limR x.10 > limR x.9 then limR x.10 else limR x.9) - orR (rT l) x.10) then IntKind.wrap
  IntKind.i64 (IntKind.wrap IntKind.i64 ((0 : Int) + if limR x.10 > limR x.9 then limR x.10 else limR x.9) - limR x.9) else IntKind.wrap IntKind.i64 ((if limR x.10 > limR
  x.9 then limR x.10 else limR x.9) - orR (rT l) x.10)) + if (if limR x.10 > limR x.9 then limR x.10 else limR x.9) > limR now then if limR x.10 > limR x.9 then limR x.10
  else limR x.9 else limR now) - if limR x.10 > limR x.9 then limR x.10 else limR x.9); let z3 := ((((True /\ (True /\ (True /\ (True /\ ((0 + List.length d * 2 <=
  List.length (gC enF d) /\ Plain (List.take (List.length d * 2) (List.drop 0 (gC enF d)))) /\ (True /\ (True /\ ((0 + List.length l * 2 <= List.length (gC enF l) /\ Plain
  (List.take (List.length l * 2) (List.drop 0 (gC enF l)))) /\ (True /\ (True /\ (True /\ (True /\ True)))))))))))) /\ True) /\ ((True /\ (True /\ True)) /\ (True /\ (IsF
  (rT d) (List.length d) /\ (IsF (rT l) (List.length l) /\ (List.length d <= 9223372036854775807 /\ (List.length l <= 9223372036854775807 /\ BgR (rT l))))))))); let z4 :=
  ((Eq (α := List Value) (gC enF d) (gC enF d)) /\ ((Plain (gC enF d)) /\ ((Eq (α := List Value) (gC enF l) (gC enF l)) /\ ((Plain (gC enF l)) /\ True)))); let z5 :=
  (Value.int IntKind.i64 x.10 = Value.int IntKind.i64 x.10); let z6 := (Value.int IntKind.i64 x.9 = Value.int IntKind.i64 x.9); ((((True /\ True) /\ (True /\ (True /\
  True)))) /\ ((((True /\ True) /\ (True /\ (True /\ True)))) /\ ((((True /\ True) /\ (True /\ (True /\ True)))) /\ (z6 /\ (z6 /\ (z6 /\ (z5 /\ (z5 /\ (z5 /\ ((((True /\
  True) /\ (True /\ (True /\ True)))) /\ (((((0 + List.length l * 2 <= List.length (gC enF l) /\ Plain (List.take (List.length l * 2) (List.drop 0 (gC enF l)))) /\ (True /\
  True)) /\ ((True /\ True) /\ (True /\ (IsF (rT l) (List.length l) /\ (List.length l <= 9223372036854775807 /\ alB (rT l) (ByteArray.mk #[97, 103, 101]) <= 16777216))))))
  /\ (br (alN (rT l) (ByteArray.mk #[97, 103, 101]) == (1 : Int)) ((((True /\ True) /\ (True /\ (True /\ List.length (L (alV (rT l) (ByteArray.mk #[97, 103, 101]))) <=
  9223372036854775807)))) /\ (z3 /\ ((v = if (2147483647 : Int) < IntKind.wrap IntKind.i64 z1 then (2147483647 : Int) else IntKind.wrap IntKind.i64 z1) /\ z4))) (z3 /\ ((v =
  if (2147483647 : Int) < IntKind.wrap IntKind.i64 z2 then (2147483647 : Int) else IntKind.wrap IntKind.i64 z2) /\ z4)))))))))))))) := by kernel_rfl
theorem Pr_vc (n : Int) (v : Bool) : mcall E0 noM 60 35 [.int .i64 n] ⟨mkR (nums 0 []), 0⟩ (retIs 0 (.bool v) []) =
  (br (n == (200 : Int)) ((v = true) /\ True) (br (n == (203 : Int)) ((v = true) /\ True) (br (n == (204 : Int)) ((v = true) /\ True) (br (n == (300 : Int)) ((v = true) /\
  True) (br (n == (301 : Int)) ((v = true) /\ True) (br (n == (308 : Int)) ((v = true) /\ True) (br (n == (404 : Int)) ((v = true) /\ True) (br (n == (405 : Int)) ((v =
  true) /\ True) (br (n == (410 : Int)) ((v = true) /\ True) (br (n == (414 : Int)) ((v = true) /\ True) (br (n == (501 : Int)) ((v = true) /\ True) ((v = false) /\
  True)))))))))))) := by kernel_rfl
theorem Cr_vc (n v : Int) : mcall E0 noM 60 37 [.int .i64 n] ⟨mkR (nums 0 []), 0⟩ (retIs 0 (.int .i64 v) []) =
  ((v = if (if (2147483647 : Int) < n then (2147483647 : Int) else n) > (0 : Int) then if (2147483647 : Int) < n then (2147483647 : Int) else n else (0 : Int)) /\ True) := by kernel_rfl
theorem plainR_con (n : Int) : Con Try.prog 35 [.int .i64 n] [] (.bool (plB n)) [] := by
  refine con_vc (E := E0) mixed (calls_envN _) (lok_envN _) (M := noM) lm_none (Pr_vc n _) ?_
  unfold plB
  repeat' refine br_if (fun h => ?_) (fun h => ?_)
  all_goals simp_all
theorem cr_con (n : Int) : Con Try.prog 37 [.int .i64 n] [] (.int .i64 (lim n)) [] := by
  refine con_vc (E := E0) mixed (calls_envN _) (lok_envN _) (M := noM) lm_none (Cr_vc n _) ?_
  simp only [ofNat_eq, toNat_cast, Nat.zero_add, Nat.add_zero, Nat.mul_one, List.drop_zero, bCells_len, bCells_drop, bCells_take, bCells_app, bCells_one, bCells_plain, List.length_replicate, List.length_append, List.length_take, List.length_drop, List.take_length, and_true, true_and, and_self, decide_true, List.length_nil, List.length_cons, Nat.sub_zero, dB_mk, dB_ro, List.take_zero, rT]
  unfold lim
  split <;> split at * <;> omega
theorem eRdR_ok : EntOk Try.prog eRdR := entC_ok (by
  intro a rows p v news h hp
  split at h <;> simp only [Option.some.injEq, Prod.mk.injEq, reduceCtorEq] at h
  obtain ⟨rfl, rfl, rfl⟩ := h
  rw [z_rdJ, z_rdC]
  exact rrd_con (L _) hp)
theorem eCoR_ok : EntOk Try.prog eCoR := entC_ok (by
  intro a rows p v news h hp
  split at h <;> simp only [Option.some.injEq, Prod.mk.injEq, reduceCtorEq] at h
  obtain ⟨rfl, rfl, rfl⟩ := h
  obtain ⟨⟨l, rfl, rfl⟩, h1, h2⟩ := hp
  simp only [ctR, BgR, dF0, List.append_nil] at h2 ⊢
  exact Rc_con l h1 (h2 _))
theorem eNu_ok : EntOk Try.prog eNu := entC_ok (by
  intro a rows p v news h hp
  split at h <;> simp only [Option.some.injEq, Prod.mk.injEq, reduceCtorEq] at h
  obtain ⟨rfl, rfl, rfl⟩ := h
  exact Rn_con (L _) hp)
theorem ePlR_ok : EntOk Try.prog ePlR := entC_ok (by
  intro a rows p v news h hp
  split at h <;> simp only [Option.some.injEq, Prod.mk.injEq, reduceCtorEq] at h
  obtain ⟨rfl, rfl, rfl⟩ := h
  exact plainR_con _)
theorem eShR_ok : EntOk Try.prog eShR := entC_ok (by
  intro a rows p v news h hp
  split at h <;> simp only [Option.some.injEq, Prod.mk.injEq, reduceCtorEq] at h
  obtain ⟨rfl, rfl, rfl⟩ := h
  exact Go.Proofs.Ytideeogedleabaa.fl.rshare_con _ _)
theorem eClR_ok : EntOk Try.prog eClR := entC_ok (by
  intro a rows p v news h hp
  split at h <;> simp only [Option.some.injEq, Prod.mk.injEq, reduceCtorEq] at h
  obtain ⟨rfl, rfl, rfl⟩ := h
  rw [z_limR]
  exact cr_con _)
theorem tRa_ok : ∀ x ∈ tRa, EntOk Try.prog x := all_cons eAlR_ok (all_cons eRdR_ok (all_nil))
theorem wh_con (l : List Fl) (s : List UInt8) (hl : l.length ≤ maxLen) (hb : BgL l) : Con Try.prog 33 [.slice (some ⟨0, 0, none⟩) l.length 2, .string (bs s)] [gRo enF l] (.tuple #[.int .i64 (dtJ (dtO l s)), .bool (dtO l s).isSome]) [gRo enF l] := by
  refine con_vc (E := EtRa) mixed (calls_envT tRa_ok) (lok_envT _ _) (M := noM) lm_none (Wh_vc l s _ _) ?_
  have hm : maxLen = 9223372036854775807 := by unfold maxLen; rfl
  simp only [ofNat_eq, toNat_cast, Nat.zero_add, Nat.add_zero, Nat.mul_one, List.drop_zero, bCells_len, bCells_drop, bCells_take, bCells_app, bCells_one, bCells_plain, List.length_replicate, List.length_append, List.length_take, List.length_drop, List.take_length, and_true, true_and, and_self, decide_true, List.length_nil, List.length_cons, Nat.sub_zero, dB_mk, dB_ro, List.take_zero, rT, fPl, fLen, fTake, n_alV, n_alN, n_alB, z_rdJ, z_rdC]
  have h1 := hb s
  refine ⟨⟨Nat.le_refl _, isF_mk _ _ rfl, by omega, by omega⟩, ?_⟩
  by_cases h : allN s l = 1
  · refine br_nb (by simp [h]) ⟨by rw [L_bs]; omega, ?_⟩
    unfold dtO rdI rdB
    rw [if_pos h, L_bs]
    cases rdL (allL l s) <;> exact ⟨rfl, rfl⟩
  · refine br_b (by simp; omega) ?_
    unfold dtO
    rw [if_neg h]
    exact ⟨rfl, rfl⟩
theorem eWh_ok : EntOk Try.prog eWh := entC_ok (by
  intro a rows p v news h hp
  split at h <;> simp only [Option.some.injEq, Prod.mk.injEq, reduceCtorEq] at h
  obtain ⟨rfl, rfl, rfl⟩ := h
  obtain ⟨⟨l, rfl, rfl⟩, h1, h2⟩ := hp
  simp only [z_dtI, z_dtB, BgR, dF0, List.append_nil] at h2 ⊢
  exact wh_con l (L _) h1 h2)
theorem tRb_ok : ∀ x ∈ tRb, EntOk Try.prog x := all_cons eAlR_ok (all_cons eWh_ok (all_cons eCoR_ok (all_cons eNu_ok (all_cons ePlR_ok (all_cons eShR_ok (all_cons eClR_ok (all_nil)))))))
theorem da_con (x : En12) (d l : List Fl) (hd : d.length ≤ maxLen) (hl : l.length ≤ maxLen) (hb : BgL l) : Con Try.prog 34 [.agg ⟨enT x 0 d.length 1 l.length⟩] [gRo enF d, gRo enF l] (.int .i64 (orL l x.came)) [gRo enF d, gRo enF l] := by
  refine con_vc (E := EtRb) mixed (calls_envT tRb_ok) (lok_envT _ _) (M := noM) lm_none (Da_vc x d l _) ?_
  have hm : maxLen = 9223372036854775807 := by unfold maxLen; rfl
  simp only [ofNat_eq, toNat_cast, Nat.zero_add, Nat.add_zero, Nat.mul_one, List.drop_zero, bCells_len, bCells_drop, bCells_take, bCells_app, bCells_one, bCells_plain, List.length_replicate, List.length_append, List.length_take, List.length_drop, List.take_length, and_true, true_and, and_self, decide_true, List.length_nil, List.length_cons, Nat.sub_zero, dB_mk, dB_ro, List.take_zero, rT, fPl, fLen, fTake, z_dtI, z_dtB, decF_gC]
  have bg : ∀ b o, BgR ⟨gC enF l, b, o⟩ := fun b o => by unfold BgR; simp only; rw [decF_gC]; exact hb
  simp only [b_date, L_bs]
  refine ⟨⟨Nat.le_refl _, isF_mk _ _ rfl, by omega, bg _ _⟩, br_intro (fun h => ?_) (fun h => ?_)⟩
  · unfold orL; rw [if_pos h]
  · unfold orL lim; rw [if_neg (by simp [h])]; split <;> split at * <;> omega
theorem eDa_ok : EntOk Try.prog eDa := entC_ok (by
  intro a rows p v news h hp
  split at h <;> simp only [Option.some.injEq, Prod.mk.injEq, reduceCtorEq] at h
  obtain ⟨rfl, rfl, rfl⟩ := h
  obtain ⟨⟨d, rfl, rfl⟩, ⟨l, rfl, rfl⟩, h1, h2, h3⟩ := hp
  simp only [z_orR, BgR, dF0, List.append_nil] at h3 ⊢
  exact da_con ⟨_, _, _, _, _, _, _, _, _, _⟩ d l h1 h2 h3)
theorem tRc_ok : ∀ x ∈ tRc, EntOk Try.prog x := all_cons eAlR_ok (all_cons eWh_ok (all_cons eCoR_ok (all_cons eNu_ok (all_cons ePlR_ok (all_cons eShR_ok (all_cons eClR_ok (all_cons eDa_ok (all_nil))))))))
theorem lr_con (x : En12) (d l : List Fl) (sh : Nat) (hd : d.length ≤ maxLen) (hl : l.length ≤ maxLen) (hb : BgL l) : Con Try.prog 15 [.agg ⟨enT x 0 d.length 1 l.length⟩, .float .f64 sh] [gRo enF d, gRo enF l] (.int .i64 (lifeL l x.came x.st sh)) [gRo enF d, gRo enF l] := by
  refine con_vc (E := EtRc) mixed (calls_envT tRc_ok) (lok_envT _ _) (M := noM) lm_none (Lr_vc x d l sh _) ?_
  have hm : maxLen = 9223372036854775807 := by unfold maxLen; rfl
  simp only [mx1]
  simp only [ofNat_eq, toNat_cast, Nat.zero_add, Nat.add_zero, Nat.mul_one, List.drop_zero, bCells_len, bCells_drop, bCells_take, bCells_app, bCells_one, bCells_plain, List.length_replicate, List.length_append, List.length_take, List.length_drop, List.take_length, and_true, true_and, and_self, decide_true, List.length_nil, List.length_cons, Nat.sub_zero, dB_mk, dB_ro, List.take_zero, rT, fPl, fLen, fTake, n_alV, n_alN, n_alB, z_dtI, z_dtB, z_orR, z_toldR, decF_gC, ctR]
  have bg : ∀ b o, BgR ⟨gC enF l, b, o⟩ := fun b o => by unfold BgR; simp only; rw [decF_gC]; exact hb
  simp only [b_exp, b_last, n_alN, n_alB, L_bs, bg, and_true, true_and, Nat.le_refl]
  have h0 := hb sExp
  have o1 := or_in l x.came
  have d1 := dt_in l sExp
  have d2 := dt_in l sLast
  have i1 : IsF ⟨gC enF l, true, .cells true⟩ l.length := isF_mk _ _ rfl
  have i2 : IsF ⟨gC enF d, true, .cells true⟩ d.length := isF_mk _ _ rfl
  have w1 : IntKind.i64.wrap (dtJ (dtO l sExp) - orL l x.came) = dtJ (dtO l sExp) - orL l x.came := wr64_id (by unfold I64; omega)
  have w2 : IntKind.i64.wrap (orL l x.came - dtJ (dtO l sLast)) = orL l x.came - dtJ (dtO l sLast) := wr64_id (by unfold I64; omega)
  simp only [w1, w2]
  have P : IsF ⟨gC enF d, true, .cells true⟩ d.length ∧ IsF ⟨gC enF l, true, .cells true⟩ l.length ∧ d.length ≤ 9223372036854775807 ∧ l.length ≤ 9223372036854775807 := ⟨i2, i1, by omega, by omega⟩
  unfold lifeL
  refine ⟨⟨i1, by omega⟩, br_if (fun h => ?_) (fun h => br_if (fun h2 => ?_) (fun h2 => ⟨⟨i1, by omega, by omega⟩, br_if (fun h3 => ⟨⟨i1, by omega⟩, br_intro (fun h4 => ?_) (fun h4 => ⟨P, ?_⟩)⟩) (fun h3 => ⟨⟨i1, by omega⟩, br_intro (fun h4 => br_intro (fun h5 => ⟨P, br_if (fun h6 => ⟨P, ?_⟩) (fun h6 => ?_)⟩) (fun h5 => ?_)) (fun h4 => ?_)⟩)⟩))⟩
  · rw [if_pos (by omega)]
  · rw [if_neg (by omega), if_pos (by omega)]
  · rw [if_neg (by omega), if_neg (by omega), if_pos (by omega), if_neg (by simpa using h4)]
  · rw [if_neg (by omega), if_neg (by omega), if_pos (by omega), if_pos (by simpa using h4)]
  · rw [if_neg (by omega), if_neg (by omega), if_neg (by omega), if_pos ⟨by simpa using h4, by omega, by simpa using h5⟩, Go.Proofs.Ytideeogedleabaa.fl.share_eq]
  · rw [if_neg (by omega), if_neg (by omega), if_neg (by omega), if_neg (fun c => by omega)]
  · rw [if_neg (by omega), if_neg (by omega), if_neg (by omega), if_neg (fun c => by simp [c.2.2] at h5)]
  · rw [if_neg (by omega), if_neg (by omega), if_neg (by omega), if_neg (fun c => by simp [c.1] at h4)]
theorem ar_con (x : En12) (d l : List Fl) (now : Int) (hd : d.length ≤ maxLen) (hl : l.length ≤ maxLen) (hb : BgL l) : Con Try.prog 16 [.agg ⟨enT x 0 d.length 1 l.length⟩, .int .i64 now] [gRo enF d, gRo enF l] (.int .i64 (ageL l x.asked x.came now)) [gRo enF d, gRo enF l] := by
  refine con_vc (E := EtRc) mixed (calls_envT tRc_ok) (lok_envT _ _) (M := noM) lm_none (Ar_vc x d l now _) ?_
  have hm : maxLen = 9223372036854775807 := by unfold maxLen; rfl
  simp only [mx1, mn1, z_limR]
  simp only [ofNat_eq, toNat_cast, Nat.zero_add, Nat.add_zero, Nat.mul_one, List.drop_zero, bCells_len, bCells_drop, bCells_take, bCells_app, bCells_one, bCells_plain, List.length_replicate, List.length_append, List.length_take, List.length_drop, List.take_length, and_true, true_and, and_self, decide_true, List.length_nil, List.length_cons, Nat.sub_zero, dB_mk, dB_ro, List.take_zero, rT, fPl, fLen, fTake, b_age, n_alV, n_alN, n_alB, z_dtI, z_dtB, z_orR, z_toldR, decF_gC, secS, L_bs]
  have bg : ∀ b o, BgR ⟨gC enF l, b, o⟩ := fun b o => by unfold BgR; simp only; rw [decF_gC]; exact hb
  simp only [bg, and_true, true_and, Nat.le_refl]
  have h0 := hb sAgeN
  have o1 := or_in l x.came
  have o2 := told_in l
  have i1 : IsF ⟨gC enF l, true, .cells true⟩ l.length := isF_mk _ _ rfl
  have i2 : IsF ⟨gC enF d, true, .cells true⟩ d.length := isF_mk _ _ rfl
  have P : IsF ⟨gC enF d, true, .cells true⟩ d.length ∧ IsF ⟨gC enF l, true, .cells true⟩ l.length ∧ d.length ≤ 9223372036854775807 ∧ l.length ≤ 9223372036854775807 := ⟨i2, i1, by omega, by omega⟩
  have l1 := lim_in x.asked
  have l2 := lim_in x.came
  have l3 := lim_in now
  have main : ∀ T : Int, toldL l = T → ageL l x.asked x.came now = min 2147483647 (IntKind.i64.wrap (IntKind.i64.wrap (max 0 (max (IntKind.i64.wrap (IntKind.i64.wrap (T + max (lim x.came) (lim x.asked)) - lim x.asked)) (IntKind.i64.wrap (max (lim x.came) (lim x.asked) - orL l x.came))) + max (max (lim x.came) (lim x.asked)) (lim now)) - max (lim x.came) (lim x.asked))) := by
    intro T hT
    unfold ageL
    rw [hT] at o2 ⊢
    generalize lim x.asked = A at *
    generalize lim x.came = C at *
    generalize lim now = N at *
    generalize orL l x.came = O at *
    rw [wr64_id (n := T + max C A) (by unfold I64; omega), wr64_id (n := T + max C A - A) (by unfold I64; omega), wr64_id (n := max C A - O) (by unfold I64; omega)]
    rw [wr64_id (n := max 0 (max (T + max C A - A) (max C A - O)) + max (max C A) N) (by unfold I64; omega), wr64_id (by unfold I64; omega)]
    omega
  refine ⟨⟨i1, by omega, by omega⟩, ?_⟩
  by_cases h : allN sAgeN l = 1
  · refine br_b (by simp [h]) ⟨by omega, P, main _ ?_⟩
    unfold toldL; rw [if_pos h]
  · refine br_nb (by simp; omega) ⟨P, main _ ?_⟩
    unfold toldL; rw [if_neg h]
end Go.Proofs.Ytideeogedleabaa.tk
