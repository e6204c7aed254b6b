/- The law: any entry's lifetime, its age, what is left. -/
import Derived.Test.YtideeogedleabaaSz9
import Derived.Test.YtideeogedleabaaRows
import Derived.Test.YtideeogedleabaaLfrR3
import Derived.Test.YtideeogedleabaaLlgtK
import Derived.Test.YtideeogedleabaaLfbook
set_option maxRecDepth 20000
set_option linter.unusedSimpArgs false
set_option linter.unusedVariables false
namespace Go.Proofs.Ytideeogedleabaa.tk
open Go Go.Ev Go.Sy Go.RowKit Go.Proofs.Ytideeogedleabaa.gl
def rmG (r : Row) (a b : ByteArray) : List Value := gC enF (decF r.cells ++ List.replicate 80 ⟨L a, L b⟩)
noncomputable def inG (r1 r2 : Row) (a b : ByteArray) : Bool := Go.Proofs.Ytideeogedleabaa.fb.sameSe (decF r1.cells) (decF r2.cells ++ List.replicate 80 ⟨L a, L b⟩)
noncomputable def eRoomF : EntM := entC 14 fun a r => match a, r with
  | [.slice (some ⟨0, 0, none⟩) n 2, .agg ⟨[.string a, .string b]⟩], [r0] => some (IsF r0 n ∧ n ≤ 16777000, .slice (some ⟨1, 0, none⟩) (n + 80) 2, [⟨rmG r0 a b, false, .cells true⟩])
  | _, _ => none
noncomputable def eIntF : EntM := entC 18 fun a r => match a, r with
  | [.slice (some ⟨0, 0, none⟩) n 2, .slice (some ⟨1, 0, none⟩) m 2, .agg ⟨[.string a, .string b]⟩], [r0, r1] => some (IsF r0 n ∧ IsF r1 m ∧ n ≤ maxLen ∧ m ≤ 16777000, .bool (inG r0 r1 a b), [])
  | _, _ => none
noncomputable def eLgF : EntM := entC 30 fun a r => match a, r with
  | [.slice (some ⟨0, 0, none⟩) n 2], [r0] => some (IsF r0 n ∧ n ≤ 1048576 ∧ ShR r0, .bool (lgR r0), [])
  | _, _ => none
noncomputable def eRuns : EntM := entC 3 fun a r => match a, r with
  | [], [] => some (True, .bool true, [])
  | _, _ => none
noncomputable def tFt : List EntM := [eLgF, eRoomF, eIntF, eLi, eAg, eLiR, eAgR, eRuns]
noncomputable abbrev EtFt : Env := envT Try.prog tFt
theorem Te_vc (x : En12) (d l : List Fl) (now : Int) (sh : Nat) : mcall EtFt noM 60 4 [.agg ⟨enT x 0 d.length 1 l.length⟩, .int .i64 now, .float .f64 sh] ⟨mkR (nums 0 [gRo enF d, gRo enF l]), 2⟩ (retIs 2 (.bool true) [gRo enF d, gRo enF l]) =
  let z1 := (Value.agg (Array.mk [Value.string x.1, Value.string x.2, Value.string x.3, Value.string x.4, Value.slice (some (Addr.mk 0 0 none)) (List.length d) 2, Value.int
  IntKind.i64 x.5, Value.int IntKind.i64 x.6, Value.slice (some (Addr.mk 11 0 none)) (Int.toNat (Int.ofNat (List.length l)) - 0) 2, Value.int IntKind.i64 x.7, Value.string
  x.8, Value.int IntKind.i64 x.9, Value.int IntKind.i64 x.10]) = Value.agg (Array.mk [Value.string x.1, Value.string x.2, Value.string x.3, Value.string x.4, Value.slice
  (some (Addr.mk 0 0 none)) (List.length d) 2, Value.int IntKind.i64 x.5, Value.int IntKind.i64 x.6, Value.slice (some (Addr.mk 11 0 none)) (Int.toNat (Int.ofNat
  (List.length l)) - 0) 2, Value.int IntKind.i64 x.7, Value.string x.8, Value.int IntKind.i64 x.9, Value.int IntKind.i64 x.10])); let z11 := (rmG (rT l) (ByteArray.mk
  #[109]) (ByteArray.mk #[])); let z7 := (Row.mk (List.take ((Int.toNat (Int.ofNat (List.length l)) - 0) * 2) (List.drop 0 z11)) true (Ob.cells true)); let z2 := ((((True /\
  (True /\ (True /\ (True /\ ((0 + List.length d * 2 <= List.length (gC enF d) /\ Plain (List.take (List.length d * 2) (List.drop 0 (gC enF d)))) /\ (True /\ (True /\ ((0 +
  (Int.toNat (Int.ofNat (List.length l)) - 0) * 2 <= List.length z11 /\ Plain (List.take ((Int.toNat (Int.ofNat (List.length l)) - 0) * 2) (List.drop 0 z11))) /\ (True /\
  (True /\ (True /\ (True /\ True)))))))))))) /\ (True /\ True)) /\ ((True /\ (True /\ True)) /\ (True /\ (IsF (rT d) (List.length d) /\ (IsF z7 (Int.toNat (Int.ofNat
  (List.length l)) - 0) /\ (List.length d <= 9223372036854775807 /\ (Int.toNat (Int.ofNat (List.length l)) - 0 <= 9223372036854775807 /\ BgR z7)))))))); let z3 := (Array.mk
  [Value.string x.1, Value.string x.2, Value.string x.3, Value.string x.4, Value.slice (some (Addr.mk 0 0 none)) (List.length d) 2, Value.int IntKind.i64 x.5, Value.int
  IntKind.i64 x.6, Value.slice (some (Addr.mk 1 0 none)) (List.length l) 2, Value.int IntKind.i64 x.7, Value.string x.8, Value.int IntKind.i64 x.9, Value.int IntKind.i64
  x.10]); let z4 := ((Eq (α := List Value) (gC enF d) (gC enF d)) /\ ((Plain (gC enF d)) /\ ((Eq (α := List Value) (gC enF l) (gC enF l)) /\ ((Plain (gC enF l)) /\ True))));
  let z5 := (Value.slice (some (Addr.mk 1 0 none)) (List.length l) 2 = Value.slice (some (Addr.mk 1 0 none)) (List.length l) 2); let z8 := (0 + List.length l * 2 <=
  List.length (gC enF l) /\ Plain (List.take (List.length l * 2) (List.drop 0 (gC enF l)))); let z6 := ((((True /\ (True /\ (True /\ (True /\ ((0 + List.length d * 2 <=
  List.length (gC enF d) /\ Plain (List.take (List.length d * 2) (List.drop 0 (gC enF d)))) /\ (True /\ (True /\ (z8 /\ (True /\ (True /\ (True /\ (True /\ True))))))))))))
  /\ (True /\ True)) /\ ((True /\ (True /\ True)) /\ (True /\ (IsF (rT d) (List.length d) /\ (IsF (rT l) (List.length l) /\ (List.length d <= 9223372036854775807 /\
  (List.length l <= 9223372036854775807 /\ BgR (rT l))))))))); let z9 := (List.take ((List.length l + 80) * 2) (List.drop 0 z11)); let z10 := (((True /\ (True /\ (True /\
  True)))) /\ ((true = true) /\ z4)); (((((0 + List.length d * 2 <= List.length (gC enF d) /\ Plain (List.take (List.length d * 2) (List.drop 0 (gC enF d)))) /\ True) /\
  ((True /\ True) /\ (True /\ (IsF (rT d) (List.length d) /\ (List.length d <= 1048576 /\ ShR (rT d))))))) /\ (br (lgR (rT d)) ((((z8 /\ True) /\ ((True /\ True) /\ (True /\
  (IsF (rT l) (List.length l) /\ (List.length l <= 1048576 /\ ShR (rT l))))))) /\ (br (lgR (rT l)) (br (!decide (Int.ofNat (List.length x.8.1.1) <= (2000 : Int))) z10 ((((z8
  /\ ((True /\ (True /\ True)) /\ True)) /\ ((True /\ True) /\ ((Plain z11 /\ True) /\ (IsF (rT l) (List.length l) /\ List.length l <= 16777000))))) /\ (z5 /\ (z5 /\ (br
  (decide ((0 : Int) <= (↑0 : Int) /\ (0 : Int) <= Int.ofNat (List.length l) /\ Int.ofNat (List.length l) <= (↑(List.length l + 80) : Int))) (z6 /\ (z6 /\ ((Value.agg z3 =
  Value.agg z3) /\ ((Value.agg z3 = Value.agg z3) /\ ((Value.agg z3 = Value.agg z3) /\ (z2 /\ (br (lifeR z7 x.10 x.6 sh == lifeR (rT l) x.10 x.6 sh) (z2 /\ (br (ageR z7 x.9
  x.10 now == ageR (rT l) x.9 x.10 now) (z2 /\ (z2 /\ (z1 /\ (z1 /\ (z1 /\ (br (IntKind.wrap IntKind.i64 (lifeR z7 x.10 x.6 sh - ageR z7 x.9 x.10 now) == IntKind.wrap
  IntKind.i64 (lifeR (rT l) x.10 x.6 sh - ageR (rT l) x.9 x.10 now)) (((((0 + (List.length l + 80) * 2 <= List.length z11 /\ Plain z9) /\ (z8 /\ ((True /\ (True /\ True)) /\
  True))) /\ ((True /\ (True /\ True)) /\ (True /\ (IsF (Row.mk z9 true (Ob.cells true)) (List.length l + 80) /\ (IsF (rT l) (List.length l) /\ (List.length l + 80 <=
  9223372036854775807 /\ List.length l <= 16777000))))))) /\ (br (inG (Row.mk z9 true (Ob.cells true)) (rT l) (ByteArray.mk #[109]) (ByteArray.mk #[])) (((True /\ (True /\
  (True /\ True)))) /\ (z1 /\ (z1 /\ (z1 /\ (z5 /\ (z5 /\ ((true = true) /\ z4))))))) (z1 /\ (z1 /\ (z1 /\ (z5 /\ (z5 /\ ((true = false) /\ z4)))))))) (z1 /\ (z1 /\ (z1 /\
  ((true = false) /\ z4)))))))))) (z1 /\ (z1 /\ ((true = false) /\ z4))))) (z1 /\ ((true = false) /\ z4))))))))) False))))) z10)) z10)) := by kernel_rfl
theorem lg_bg {l : List Fl} (h : lgB l = true) : BgL l := fun nm => by
  have h : lgN l ≤ 2000 := by unfold lgB at h; simpa using h
  have := allL_le l nm
  omega
theorem lgR_mk (l : List Fl) (b : Bool) (o : Ob) : lgR ⟨gC enF l, b, o⟩ = lgB l := by unfold lgR; simp only; rw [decF_gC]
theorem shR_mk (l : List Fl) (b : Bool) (o : Ob) (h : ShortF l) : ShR ⟨gC enF l, b, o⟩ := by unfold ShR; simp only; rw [decF_gC]; exact h
theorem bgR_mk (l : List Fl) (b : Bool) (o : Ob) (h : BgL l) : BgR ⟨gC enF l, b, o⟩ := by unfold BgR; simp only; rw [decF_gC]; exact h
theorem lift_br {d l : List Fl} {body : ByteArray} {Q : Prop} (hd : d.length ≤ 1048576) (hd2 : ShortF d) (hl : l.length ≤ 1048576) (hl2 : ShortF l) (h : lgB l = true → Q) :
    (d.length * 2 ≤ d.length * 2 ∧ IsF ⟨gC enF d, true, .cells true⟩ d.length ∧ d.length ≤ 1048576 ∧ ShR ⟨gC enF d, true, .cells true⟩) ∧
    br (lgB d) ((l.length * 2 ≤ l.length * 2 ∧ IsF ⟨gC enF l, true, .cells true⟩ l.length ∧ l.length ≤ 1048576 ∧ ShR ⟨gC enF l, true, .cells true⟩) ∧
      br (lgB l) (br (!decide ((body.data.toList.length : Int) ≤ 2000)) True Q) True) True :=
  ⟨⟨Nat.le_refl _, isF_mk _ _ rfl, hd, shR_mk _ _ _ hd2⟩, br_intro (fun _ => ⟨⟨Nat.le_refl _, isF_mk _ _ rfl, hl, shR_mk _ _ _ hl2⟩, br_intro (fun g => br_intro (fun _ => trivial) (fun _ => h g)) (fun _ => trivial)⟩) (fun _ => trivial)⟩
theorem eLi_ok : EntOk Try.prog eLi := entC_ok (by
  intro a rows p v news h hp
  split at h <;> simp only [Option.some.injEq, Prod.mk.injEq, reduceCtorEq] at h
  obtain ⟨rfl, rfl, rfl⟩ := h
  obtain ⟨⟨d, rfl, rfl⟩, ⟨l, rfl, rfl⟩, h1, h2, h3⟩ := hp
  simp only [z_lifeR, BgR, dF0, List.append_nil] at h3 ⊢
  exact li_con ⟨_, _, _, _, _, _, _, _, _, _⟩ d l _ h1 h2 h3)
theorem eAg_ok : EntOk Try.prog eAg := entC_ok (by
  intro a rows p v news h hp
  split at h <;> simp only [Option.some.injEq, Prod.mk.injEq, reduceCtorEq] at h
  obtain ⟨rfl, rfl, rfl⟩ := h
  obtain ⟨⟨d, rfl, rfl⟩, ⟨l, rfl, rfl⟩, h1, h2, h3⟩ := hp
  simp only [z_ageR, BgR, dF0, List.append_nil] at h3 ⊢
  exact ag_con ⟨_, _, _, _, _, _, _, _, _, _⟩ d l _ h1 h2 h3)
theorem eLgF_ok : EntOk Try.prog eLgF := entC_ok (by
  intro a rows p v news h hp
  split at h <;> simp only [Option.some.injEq, Prod.mk.injEq, reduceCtorEq] at h
  obtain ⟨rfl, rfl, rfl⟩ := h
  obtain ⟨⟨l, rfl, rfl⟩, h1, h2⟩ := hp
  simp only [lgR, ShR, dF0, List.append_nil] at h2 ⊢
  exact Lg_con l h1 h2)
theorem eRuns_ok : EntOk Try.prog eRuns := entC_ok (by
  intro a rows p v news h hp
  split at h <;> simp only [Option.some.injEq, Prod.mk.injEq, reduceCtorEq] at h
  obtain ⟨rfl, rfl, rfl⟩ := h
  exact con_run mixed (n := 1000000) (by kernel_rfl) (by kernel_rfl))
theorem eRoomF_ok : EntOk Try.prog eRoomF := entC_ok (by
  intro a rows p v news h hp
  split at h <;> simp only [Option.some.injEq, Prod.mk.injEq, reduceCtorEq] at h
  obtain ⟨rfl, rfl, rfl⟩ := h
  obtain ⟨⟨l, rfl, rfl⟩, h1⟩ := hp
  simp only [rmG, dF0]
  exact Go.Proofs.Ytideeogedleabaa.fb.roomy_con l ⟨L _, L _⟩ (by omega))
theorem eIntF_ok : EntOk Try.prog eIntF := entC_ok (by
  intro a rows p v news h hp
  split at h <;> simp only [Option.some.injEq, Prod.mk.injEq, reduceCtorEq] at h
  obtain ⟨rfl, rfl, rfl⟩ := h
  obtain ⟨⟨l, rfl, rfl⟩, ⟨l2, rfl, rfl⟩, h1, h2⟩ := hp
  simp only [inG, dF0, List.append_nil]
  exact Go.Proofs.Ytideeogedleabaa.fb.int_con l l2 ⟨L _, L _⟩ h1 (by omega))
theorem eLiR_ok : EntOk Try.prog eLiR := entC_ok (by
  intro a rows p v news h hp
  split at h <;> simp only [Option.some.injEq, Prod.mk.injEq, reduceCtorEq] at h
  obtain ⟨rfl, rfl, rfl⟩ := h
  obtain ⟨⟨d, rfl, rfl⟩, ⟨l, rfl, rfl⟩, h1, h2, h3⟩ := hp
  simp only [z_lifeR, BgR, dF0, List.append_nil] at h3 ⊢
  exact lr_con ⟨_, _, _, _, _, _, _, _, _, _⟩ d l _ h1 h2 h3)
theorem eAgR_ok : EntOk Try.prog eAgR := entC_ok (by
  intro a rows p v news h hp
  split at h <;> simp only [Option.some.injEq, Prod.mk.injEq, reduceCtorEq] at h
  obtain ⟨rfl, rfl, rfl⟩ := h
  obtain ⟨⟨d, rfl, rfl⟩, ⟨l, rfl, rfl⟩, h1, h2, h3⟩ := hp
  simp only [z_ageR, BgR, dF0, List.append_nil] at h3 ⊢
  exact ar_con ⟨_, _, _, _, _, _, _, _, _, _⟩ d l _ h1 h2 h3)
theorem tFt_ok : ∀ x ∈ tFt, EntOk Try.prog x := all_cons eLgF_ok (all_cons eRoomF_ok (all_cons eIntF_ok (all_cons eLi_ok (all_cons eAg_ok (all_cons eLiR_ok (all_cons eAgR_ok (all_cons eRuns_ok (all_nil))))))))
theorem n_rmG (l : List Fl) (b : Bool) (o : Ob) (x y : ByteArray) : rmG ⟨gC enF l, b, o⟩ x y = gC enF (l ++ List.replicate 80 ⟨L x, L y⟩) := by unfold rmG; simp only; rw [decF_gC]
theorem n_inG (l m : List Fl) (b c : Bool) (o p : Ob) (x y : ByteArray) : inG ⟨gC enF l, b, o⟩ ⟨gC enF m, c, p⟩ x y = Go.Proofs.Ytideeogedleabaa.fb.sameSe l (m ++ List.replicate 80 ⟨L x, L y⟩) := by unfold inG; simp only; rw [decF_gC, decF_gC]
theorem te_law (em es ea ep : ByteArray) (d : List Fl) (ek st : Int) (l : List Fl) (k2 : Int) (body : ByteArray) (asked came now : Int) (sh : Nat)
    (z1 : em.size ≤ 1048576) (z2 : es.size ≤ 1048576) (z3 : ea.size ≤ 1048576) (z4 : ep.size ≤ 1048576) (hd : d.length ≤ 1048576) (hd2 : ∀ f ∈ d, f.n.length ≤ 1048576 ∧ f.v.length ≤ 1048576) (i1 : I64 ek) (i2 : I64 st) (hl : l.length ≤ 1048576) (hl2 : ∀ f ∈ l, f.n.length ≤ 1048576 ∧ f.v.length ≤ 1048576) (i3 : I64 k2) (z5 : body.size ≤ 1048576) (i4 : I64 asked) (i5 : I64 came) (ia : I64 now) :
    Con Try.prog 4 [.agg ⟨enT ⟨em, es, ea, ep, ek, st, k2, body, asked, came⟩ 0 d.length 1 l.length⟩, .int .i64 now, .float .f64 sh] [gRo enF d, gRo enF l] (.bool true) [gRo enF d, gRo enF l] := by
  refine con_vc (E := EtFt) mixed (calls_envT tFt_ok) (lok_envT _ _) (M := noM) lm_none (Te_vc ⟨em, es, ea, ep, ek, st, k2, body, asked, came⟩ d l now sh) ?_
  have hm : maxLen = 9223372036854775807 := by unfold maxLen; rfl
  simp only [ofNat_eq, toNat_cast, Nat.zero_add, Nat.add_zero, Nat.mul_one, List.drop_zero, bCells_len, bCells_drop, bCells_take, bCells_app, bCells_one, bCells_plain, List.length_replicate, List.length_append, List.length_take, List.length_drop, List.take_length, and_true, true_and, and_self, decide_true, List.length_nil, List.length_cons, Nat.sub_zero, dB_mk, dB_ro, List.take_zero, rT, fPl, fLen, fTake, lgR_mk, z_ageR, z_lifeR, decF_gC, n_rmG, n_inG]
  refine lift_br hd hd2 hl hl2 (fun g => ?_)
  have gt : ∀ (m : List Fl) k, List.take (k * 2) (gC enF m) = gC enF (m.take k) := fun m k => gC_take enF_k m k
  have e1 : ∀ R : List Fl, (l ++ R).take l.length = l := fun R => by simp
  have e2 : (l ++ List.replicate 80 (⟨L ⟨#[109]⟩, L ⟨#[]⟩⟩ : Fl)).take (l.length + 80) = l ++ List.replicate 80 ⟨L ⟨#[109]⟩, L ⟨#[]⟩⟩ := List.take_of_length_le (by simp)
  simp only [gt, e1, e2, decF_gC, fPl, and_true, true_and, Nat.le_refl]
  have hb := lg_bg g
  have fi : ∀ (m : List Fl) n, m.length = n → IsF ⟨gC enF m, true, .cells true⟩ n := fun m n h => isF_mk _ _ h.symm
  have P : IsF ⟨gC enF d, true, .cells true⟩ d.length ∧ IsF ⟨gC enF l, true, .cells true⟩ l.length ∧ d.length ≤ 9223372036854775807 ∧ l.length ≤ 9223372036854775807 ∧ BgR ⟨gC enF l, true, .cells true⟩ := ⟨fi _ _ rfl, fi _ _ rfl, by omega, by omega, bgR_mk _ _ _ hb⟩
  have le : l.length * 2 ≤ (l.length + 80) * 2 := by omega
  simp only [le, true_and]
  refine ⟨⟨fi _ _ rfl, by omega⟩, br_dec (by omega) ⟨P, P, P, br_b (by simp) ⟨P, br_b (by simp) ⟨P, P, br_b (by simp) ⟨⟨fi _ _ (by simp), fi _ _ rfl, by omega, by omega⟩, br_b ?_ trivial⟩⟩⟩⟩⟩
  rw [n_inG]
  exact Go.Proofs.Ytideeogedleabaa.fb.sameSe_yes rfl
end Go.Proofs.Ytideeogedleabaa.tk
