/- The document's own table: fields by numbers, numbers of fields; what is known of its calls. -/
import Derived.Test.YtlkinjlbaeigdaaSz9
import Derived.Test.YtlkinjlbaeigdaaRows
import Derived.Test.YtlkinjlbaeigdaaLrfA
set_option maxRecDepth 20000
set_option linter.unusedSimpArgs false
set_option linter.unusedVariables false
namespace Go.Proofs.Ytlkinjlbaeigdaa.tb
open Go Go.Ev Go.Sy Go.RowKit Go.Proofs.Ytlkinjlbaeigdaa.gl Go.Proofs.Ytlkinjlbaeigdaa.tk
noncomputable def tGr : List EntM := [eSt2]
noncomputable abbrev EtGr : Env := envT Try.prog tGr
noncomputable def eGetR : EntM := (48, fun a r => match a, r with
  | [.pointer (some ⟨0, 0, none⟩), .int .i64 i], [⟨[.slice (some ⟨1, 0, none⟩) n 2, .int .i64 m], false, .cells false⟩, r1] =>
    some (IsTg r1 n ∧ I64 i, .tuple #[.agg ⟨[.string (gfA r1 n i), .string (gfB r1 n i)]⟩, .bool (gfK r1 n i)], 2, [(0, ⟨[.slice (some ⟨1, 0, none⟩) n 2, .int .i64 m], false, .cells false⟩), (1, r1)])
  | _, _ => none)
noncomputable def tFr : List EntM := [eGetR]
noncomputable abbrev EtFr : Env := envT Try.prog tFr
def rwR (g : GFn) : List (Nat × Row) := [(0, rtC g.l.length g.m 1), (1, gOwn enF (g.l ++ g.j)), (2, ⟨[.string (bs g.f.n), .string (bs g.f.v)], false, .cells false⟩)]
def rwR2 (g : GFn) : List (Nat × Row) := [(0, rtC g.l.length g.m 1), (1, gOwn enF (g.l ++ g.j))]
noncomputable def wsR (g : GFn) : List (Gate Unit) := [⟨.exit 0, fun _ => (fndF g.l g.f).2 = false, fun _ => [(0, .pointer (some ⟨0, 0, none⟩)), (6, .int .i64 (fiF g.l g.f))], fun _ => rwR2 g, 3⟩, ⟨.ret, fun _ => (fndF g.l g.f).2 = true, fun _ => [(0, .pointer (some ⟨0, 0, none⟩)), (4, .int .i64 (fiF g.l g.f)), (5, .bool true)], fun _ => rwR2 g, 3⟩]
noncomputable def specR : Sy.Spec := specOf 2 3 41 (fun g : GFn => g.l.length ≤ 16777216) (fun g => slF g (1, 0)) (fun g => rwR g) wsR
noncomputable def mR := mOf [(36, [0, 1, 0, 1, 1], specR)]
noncomputable def eFndR : EntM := (36, fun a r => match a, r with
  | [.pointer (some ⟨0, 0, none⟩), .agg ⟨[.string x, .string y]⟩], [⟨[.slice (some ⟨1, 0, none⟩) n 2, .int .i64 m], false, .cells false⟩, r1] =>
    some (IsTg r1 n, .tuple #[.int .i64 (fdI r1 n x y), .bool (fdB r1 n x y)], 2, [(0, ⟨[.slice (some ⟨1, 0, none⟩) n 2, .int .i64 m], false, .cells false⟩), (1, r1)])
  | _, _ => none)
noncomputable def eAddR : EntM := (37, fun a r => match a, r with
  | [.pointer (some ⟨0, 0, none⟩), .agg ⟨[.string x, .string y]⟩], [⟨[.slice (some ⟨1, 0, none⟩) n 2, .int .i64 m], false, .cells false⟩, r1] =>
    some (IsTb r1 n (szR r1 n) ∧ fbZ x y ≤ 100000000 ∧ 0 ≤ m ∧ m ≤ 100000000, .tuple #[], 3, [(0, ⟨[.slice (some ⟨2, 0, none⟩) (adN r1 n m x y) 2, .int .i64 m], false, .cells false⟩), (2, ⟨adC r1 n m x y, false, .cells true⟩)])
  | _, _ => none)
noncomputable def eResR : EntM := (34, fun a r => match a, r with
  | [.pointer (some ⟨0, 0, none⟩), .int .i64 k], [⟨[.slice (some ⟨1, 0, none⟩) n 2, .int .i64 m], false, .cells false⟩, r1] =>
    some (IsTb r1 n (szR r1 n), .int .i64 (rsZ k), 3, [(0, ⟨[.slice (some ⟨2, 0, none⟩) (rsN r1 n m k) 2, .int .i64 (rsM m k)], false, .cells false⟩), (2, ⟨rsC r1 n m k, false, .cells true⟩)])
  | _, _ => none)
theorem GtR_vc (l j : List Fl) (i m : Int) (a b : ByteArray) (k : Bool) : mcall EtGr noM 60 48 [.pointer (some ⟨0, 0, none⟩), .int .i64 i] ⟨mkR (nums 0 [rtC l.length m 1, gOwn enF (l ++ j)]), 2⟩ (retIsM 2 (.tuple #[.agg ⟨[.string a, .string b]⟩, .bool k]) 2 [(0, rtC l.length m 1), (1, gOwn enF (l ++ j))]) =
  let z1 := ((0 = 0) /\ ((List.length l = List.length l) /\ ((m = m) /\ ((Eq (α := List Value) (gC enF (l ++ j)) (gC enF (l ++ j))) /\ ((Plain (gC enF (l ++ j))) /\
  True))))); let z2 := ((a = ByteArray.mk #[]) /\ ((b = ByteArray.mk #[]) /\ ((k = false) /\ z1))); let z3 := (0 + Int.toNat (IntKind.wrap IntKind.i64 (i - (62 : Int))) * 2
  + 1); let z4 := (0 + Int.toNat (IntKind.wrap IntKind.i64 (i - (62 : Int))) * 2); ((((True /\ True) /\ (True /\ (True /\ I64 i)))) /\ (br (inR i) ((a = stA i) /\ ((b = stB
  i) /\ ((k = true) /\ z1))) (br (decide (IntKind.wrap IntKind.i64 (i - (62 : Int)) < (0 : Int))) z2 (br (decide (IntKind.wrap IntKind.i64 (i - (62 : Int)) ≥ Int.ofNat
  (List.length l))) z2 (br (decide ((0 : Int) <= IntKind.wrap IntKind.i64 (i - (62 : Int)) /\ IntKind.wrap IntKind.i64 (i - (62 : Int)) < (↑(List.length l) : Int))) ((Eq (α
  := Option Value) ((gC enF (l ++ j))[0 + Int.toNat (IntKind.wrap IntKind.i64 (i - (62 : Int))) * 2]?) (some (Value.string (cellS (gC enF (l ++ j)) z4)))) /\ ((Eq (α :=
  Option Value) ((gC enF (l ++ j))[0 + Int.toNat (IntKind.wrap IntKind.i64 (i - (62 : Int))) * 2 + 1]?) (some (Value.string (cellS (gC enF (l ++ j)) z3)))) /\ ((a = cellS
  (gC enF (l ++ j)) z4) /\ ((b = cellS (gC enF (l ++ j)) z3) /\ ((k = true) /\ z1))))) False))))) := by kernel_rfl
theorem FnR_round (g : GFn) (x : Nat × Int) (Inv : Nat × Int → Prop) (m : Nat × Int → Nat) : mev EtFr noM 60 36 (0 :: [0, 1, 0, 1, 1]) false (codeOf Try.prog 36 (0 :: [0, 1, 0, 1, 1])) ⟨mkOv (slF g x), 41, []⟩ none ⟨mkR (rwR g), 3⟩ (roundK 2 3 41 Inv m (slF g) (fun _ => rwR g) (wsR g) x) =
  let z1 := ((0 = 0) /\ ((List.length g.1 = List.length g.1) /\ ((g.4 = g.4) /\ ((Eq (α := List Value) (gC enF (g.1 ++ g.2)) (gC enF (g.1 ++ g.2))) /\ ((Plain (gC enF (g.1
  ++ g.2))) /\ ((bs g.5.1 = bs g.5.1) /\ ((bs g.5.2 = bs g.5.2) /\ True))))))); let z2 := ((0 = 0) /\ ((List.length g.1 = List.length g.1) /\ ((g.4 = g.4) /\ ((Eq (α := List
  Value) (gC enF (g.1 ++ g.2)) (gC enF (g.1 ++ g.2))) /\ ((Plain (gC enF (g.1 ++ g.2))) /\ True))))); let z3 := (Row.mk (gC enF (g.1 ++ g.2)) false (Ob.cells true)); (br
  (decide ((↑x.1 : Int) < IntKind.wrap IntKind.i64 ((62 : Int) + Int.ofNat (List.length g.1)))) ((((True /\ (True /\ True)) /\ (((True /\ (True /\ True)) /\ (Plain (gC enF
  (g.1 ++ g.2)) /\ True)) /\ ((Plain (gC enF (g.1 ++ g.2)) /\ True) /\ (IsTg z3 (List.length g.1) /\ I64 (↑x.1 : Int)))))) /\ (br (gfA z3 (List.length g.1) (↑x.1 : Int) ==
  bs g.5.1 && (gfB z3 (List.length g.1) (↑x.1 : Int) == bs g.5.2 && true)) (∃ y : Unit, (((fndF g.1 (GFn.f g)).2 = true) /\ ((0 = 0) /\ ((fiF g.1 (GFn.f g) = (↑x.1 : Int))
  /\ ((true = true) /\ z2))))) (br (x.2 == (0 : Int)) (br (strEq (gfA z3 (List.length g.1) (↑x.1 : Int)) (bs g.5.1)) (∃ j : Nat × Int, ((Inv j) /\ ((m j < m x) /\ ((0 = 0)
  /\ ((0 = 0) /\ ((j.2 = (↑x.1 : Int)) /\ (((↑j.1 : Int) = IntKind.wrap IntKind.i64 ((↑x.1 : Int) + (1 : Int))) /\ z1))))))) (∃ j : Nat × Int, ((Inv j) /\ ((m j < m x) /\
  ((0 = 0) /\ ((0 = 0) /\ ((j.2 = x.2) /\ (((↑j.1 : Int) = IntKind.wrap IntKind.i64 ((↑x.1 : Int) + (1 : Int))) /\ z1)))))))) (∃ j : Nat × Int, ((Inv j) /\ ((m j < m x) /\
  ((0 = 0) /\ ((0 = 0) /\ ((j.2 = x.2) /\ (((↑j.1 : Int) = IntKind.wrap IntKind.i64 ((↑x.1 : Int) + (1 : Int))) /\ z1)))))))))) (∃ y : Unit, (((fndF g.1 (GFn.f g)).2 =
  false) /\ ((0 = 0) /\ ((fiF g.1 (GFn.f g) = x.2) /\ z2))))) := by kernel_rfl
theorem FnR_vc (l j : List Fl) (m : Int) (f : Fl) (k : Int) (b : Bool) : mcall EtFr mR 60 36 [.pointer (some ⟨0, 0, none⟩), .agg ⟨[.string (bs f.n), .string (bs f.v)]⟩] ⟨mkR (nums 0 [rtC l.length m 1, gOwn enF (l ++ j)]), 2⟩ (retIsM 2 (.tuple #[.int .i64 k, .bool b]) 2 [(0, rtC l.length m 1), (1, gOwn enF (l ++ j))]) =
  (∃ g : GFn, ((List.length g.1 <= 16777216) /\ ((0 = 0) /\ ((0 = 0) /\ (((0 : Int) = (0 : Int)) /\ (((1 : Int) = (1 : Int)) /\ ((0 = 0) /\ ((List.length g.1 = List.length
  l) /\ ((g.4 = m) /\ ((Eq (α := List Value) (gC enF (g.1 ++ g.2)) (gC enF (l ++ j))) /\ ((Plain (gC enF (g.1 ++ g.2))) /\ ((bs g.5.1 = bs f.1) /\ ((bs g.5.2 = bs f.2) /\ (∀
  (side : Bool), (br (side) (∀ (y : Unit), (((fndF g.1 (GFn.f g)).2 = false) → ((k = fiF g.1 (GFn.f g)) /\ ((b = false) /\ ((0 = 0) /\ ((List.length l = List.length g.1) /\
  ((m = g.4) /\ ((Eq (α := List Value) (gC enF (l ++ j)) (gC enF (g.1 ++ g.2))) /\ ((Plain (gC enF (l ++ j))) /\ True))))))))) (∀ (y : Unit), (((fndF g.1 (GFn.f g)).2 =
  true) → ((k = fiF g.1 (GFn.f g)) /\ ((b = true) /\ ((0 = 0) /\ ((List.length l = List.length g.1) /\ ((m = g.4) /\ ((Eq (α := List Value) (gC enF (l ++ j)) (gC enF (g.1 ++
  g.2))) /\ ((Plain (gC enF (l ++ j))) /\ True)))))))))))))))))))))))) := by kernel_rfl
theorem tGr_ok : ∀ x ∈ tGr, EntOk Try.prog x := all_cons eSt2_ok (all_nil)
theorem GtR_con (l j : List Fl) (i m : Int) (hl : l.length ≤ 16777216) (hi : I64 i) : ConM Try.prog 48 [.pointer (some ⟨0, 0, none⟩), .int .i64 i] [rtC l.length m 1, gOwn enF (l ++ j)] (.tuple #[.agg ⟨[.string (bs (getF l i).1.n), .string (bs (getF l i).1.v)]⟩, .bool (getF l i).2]) 2 [(0, rtC l.length m 1), (1, gOwn enF (l ++ j))] := by
  refine conM_vc (E := EtGr) mixed (calls_envT tGr_ok) (lok_envT _ _) (M := noM) lm_none (GtR_vc l j i m _ _ _) ?_
  simp only [ofNat_eq, toNat_cast, Nat.zero_add, Nat.add_zero, Nat.mul_one, List.drop_zero, bCells_len, bCells_drop, bCells_take, bCells_app, bCells_one, bCells_plain, List.length_replicate, List.length_append, List.length_take, List.length_drop, List.take_length, and_true, true_and, and_self, decide_true, List.length_nil, List.length_cons, Nat.sub_zero, dB_mk, dB_ro, List.take_zero, fPl]
  refine ⟨hi, br_intro (fun h => ?_) (fun h => ?_)⟩
  · have h' : 1 ≤ i ∧ i ≤ 61 := of_decide_eq_true h
    have e : getF l i = (⟨L (stA i), L (stB i)⟩, inR i) := if_pos h'.2
    rw [e]
    exact ⟨bsL _, bsL _, h⟩
  · have h' : ¬ (1 ≤ i ∧ i ≤ 61) := of_decide_eq_false h
    have nil1 : stA i = ⟨#[]⟩ := by unfold stA; rw [h]; rfl
    have nil2 : stB i = ⟨#[]⟩ := by unfold stB; rw [h]; rfl
    have low : i < 1 → getF l i = (⟨[], []⟩, false) := fun q => by
      unfold getF; rw [if_pos (by omega), nil1, nil2, h]; rfl
    by_cases q : i < 1
    · have w : IntKind.i64.wrap (i - 62) < 0 ∨ IntKind.i64.wrap (i - 62) > 16777216 := by
        by_cases q2 : -9223372036854775808 ≤ i - 62
        · left; rw [wr64_id (by unfold I64 at hi ⊢; omega)]; omega
        · right
          obtain ⟨x1, x2⟩ := hi
          have : IntKind.i64.wrap (i - 62) = i - 62 + 18446744073709551616 := by
            rw [wr64]; omega
          omega
      rw [low q]
      refine br_if (fun _ => ⟨rfl, rfl, rfl⟩) (fun r => br_if (fun _ => ⟨rfl, rfl, rfl⟩) (fun r2 => by omega))
    · have w : IntKind.i64.wrap (i - 62) = i - 62 := wr64_id (by unfold I64 at hi ⊢; omega)
      simp only [w]
      refine br_if (fun _ => by omega) (fun _ => br_if (fun r => ?_) (fun r => br_dec (by omega) ?_))
      · have e : getF l i = (⟨[], []⟩, false) := by unfold getF; rw [if_neg (by omega), if_neg (by omega)]
        rw [e]; exact ⟨rfl, rfl, rfl⟩
      · have hn : (i - 62).toNat < l.length := by omega
        have e : getF l i = (l.getD (i - 62).toNat ⟨[], []⟩, true) := by unfold getF; rw [if_neg (by omega), if_pos hn]
        have hn2 : (i - 62).toNat < (l ++ j).length := by rw [List.length_append]; omega
        obtain ⟨c1, c2, c3, c4⟩ := fGet (l ++ j) _ hn2
        have g : (l ++ j)[(i - 62).toNat] = l[(i - 62).toNat] := List.getElem_append_left hn
        have gd : l.getD (i - 62).toNat ⟨[], []⟩ = l[(i - 62).toNat] := by rw [List.getD_eq_getElem?_getD, List.getElem?_eq_getElem hn]; rfl
        rw [g] at c1 c2 c3 c4
        rw [e, gd]
        exact ⟨by rw [c1, c3], by rw [c2, c4], c3.symm, c4.symm, rfl⟩
theorem eGetR_ok : EntOk Try.prog eGetR := by
  intro a rows p v n' rl he hp
  simp only [eGetR] at he
  split at he
  · simp only [Option.some.injEq, Prod.mk.injEq] at he
    obtain ⟨rfl, rfl, rfl, rfl⟩ := he
    rename_i i n m r1
    obtain ⟨⟨l, j, rfl, rfl, h1⟩, h2⟩ := hp
    obtain ⟨e1, e2, e3⟩ := gf_mk l j false (.cells true) i
    unfold gOwn
    rw [e1, e2, e3]
    exact GtR_con l j i m h1 h2
  · simp at he
theorem tFr_ok : ∀ x ∈ tFr, EntOk Try.prog x := all_cons eGetR_ok (all_nil)
theorem R_piece : PieceOk EtFr 2 (36, [0, 1, 0, 1, 1], specR) := by
  refine piece_loop mixed (calls_envT tFr_ok) (lok_envT _ _) lm_none (n := 60) (by kernel_rfl) (fun _ : GFn => ((1, 0) : Nat × Int)) (fun g x => x.1 ≤ 62 + g.l.length ∧ fndF g.l g.f = fndN g.l g.f (62 + g.l.length - x.1) x.1 x.2) (fun g x => 62 + g.l.length - x.1) (sl := slF) (rl := fun g _ => rwR g) (fun g hg => ⟨by simp only; omega, by unfold fndF; congr 1; simp only; omega⟩) (fun g x hg hi => ?_)
  refine (FnR_round g x _ _).mpr ?_
  obtain ⟨i, nm⟩ := x
  obtain ⟨h1, h2⟩ := hi
  simp only at h1 h2
  obtain ⟨e1, e2, e3⟩ := gf_mk g.l g.j false (.cells true) (i : Nat)
  have ws : IntKind.i64.wrap ((i : Int) + 1) = ((i + 1 : Nat) : Int) := by rw [wr64_id (by unfold I64; omega)]; omega
  have wt : IntKind.i64.wrap (62 + (g.l.length : Int)) = 62 + (g.l.length : Int) := wr64_id (by unfold I64; omega)
  simp only [ofNat_eq, toNat_cast, Nat.zero_add, Nat.add_zero, Nat.mul_one, List.drop_zero, bCells_len, bCells_drop, bCells_take, bCells_app, bCells_one, bCells_plain, List.length_replicate, List.length_append, List.length_take, List.length_drop, List.take_length, and_true, true_and, and_self, decide_true, List.length_nil, List.length_cons, Nat.sub_zero, dB_mk, dB_ro, List.take_zero, z_fiF, e1, e2, e3, strEq_bs, bq_bs, ws, wt, fPl]
  refine br_if (fun h => ⟨⟨isTg_mk _ _ hg, by unfold I64; omega⟩, ?_⟩) (fun h => ?_)
  · obtain ⟨k, hk⟩ : ∃ k, 62 + g.l.length - i = k + 1 := ⟨61 + g.l.length - i, by omega⟩
    rw [hk, fndN] at h2
    have hk2 : k = 62 + g.l.length - (i + 1) := by omega
    simp only [Bool.and_true, br_iff, Bool.and_eq_true, Bool.and_eq_false_iff, decide_eq_true_eq, decide_eq_false_iff_not, beq_iff_eq, beq_eq_false_iff_ne]
    refine ⟨fun hh => ?_, fun hh => ?_⟩
    · rw [if_pos hh] at h2
      exact ⟨(), by rw [h2], by rw [h2]⟩
    · have hh' : ¬ ((getF g.l (i : Nat)).1.n = g.f.n ∧ (getF g.l (i : Nat)).1.v = g.f.v) := by
        rintro ⟨u1, u2⟩
        rcases hh with u | u
        · exact u u1
        · exact u u2
      rw [if_neg hh', hk2] at h2
      refine ⟨fun hn => ⟨fun hm => ?_, fun hm => ?_⟩, fun hn => ?_⟩
      · rw [if_pos ⟨hn, hm⟩] at h2
        exact ⟨(i + 1, (i : Nat)), ⟨by simp only; omega, h2⟩, by simp only; omega, rfl, rfl⟩
      · rw [if_neg (fun u => hm u.2)] at h2
        exact ⟨(i + 1, nm), ⟨by simp only; omega, h2⟩, by simp only; omega, rfl, rfl⟩
      · rw [if_neg (fun u => hn u.1)] at h2
        exact ⟨(i + 1, nm), ⟨by simp only; omega, h2⟩, by simp only; omega, rfl, rfl⟩
  · have : 62 + g.l.length - i = 0 := by omega
    rw [this, fndN] at h2
    exact ⟨(), by rw [h2], by rw [h2]⟩
theorem FnR_con (l j : List Fl) (m : Int) (f : Fl) (hl : l.length ≤ 16777216) : ConM Try.prog 36 [.pointer (some ⟨0, 0, none⟩), .agg ⟨[.string (bs f.n), .string (bs f.v)]⟩] [rtC l.length m 1, gOwn enF (l ++ j)] (.tuple #[.int .i64 (fndF l f).1, .bool (fndF l f).2]) 2 [(0, rtC l.length m 1), (1, gOwn enF (l ++ j))] := by
  refine conM_vc (E := EtFr) mixed (calls_envT tFr_ok) (lok_envT _ _) (M := mR) (lm_one R_piece) (FnR_vc l j m f _ _) ?_
  simp only [ofNat_eq, toNat_cast, Nat.zero_add, Nat.add_zero, Nat.mul_one, List.drop_zero, bCells_len, bCells_drop, bCells_take, bCells_app, bCells_one, bCells_plain, List.length_replicate, List.length_append, List.length_take, List.length_drop, List.take_length, and_true, true_and, and_self, decide_true, List.length_nil, List.length_cons, Nat.sub_zero, dB_mk, dB_ro, List.take_zero, z_fiF, fPl]
  exact ⟨⟨l, j, 0, m, f⟩, hl, rfl, rfl, rfl, rfl, rfl, fun side => br_iff.2 ⟨fun _ _ h => ⟨rfl, h, rfl, rfl, rfl⟩, fun _ _ h => ⟨rfl, h, rfl, rfl, rfl⟩⟩⟩
theorem eFndR_ok : EntOk Try.prog eFndR := by
  intro a rows p v n' rl he hp
  simp only [eFndR] at he
  split at he
  · simp only [Option.some.injEq, Prod.mk.injEq] at he
    obtain ⟨rfl, rfl, rfl, rfl⟩ := he
    rename_i x y n m r1
    obtain ⟨l, j, rfl, rfl, h1⟩ := hp
    obtain ⟨e1, e2⟩ := fd_mk l j false (.cells true) (L x) (L y)
    rw [bsL, bsL] at e1 e2
    unfold gOwn
    rw [e1, e2]
    exact FnR_con l j m ⟨L x, L y⟩ h1
  · simp at he
theorem eAddR_ok : EntOk Try.prog eAddR := by
  intro a rows p v n' rl he hp
  simp only [eAddR] at he
  split at he
  · simp only [Option.some.injEq, Prod.mk.injEq] at he
    obtain ⟨rfl, rfl, rfl, rfl⟩ := he
    rename_i x y n m r1
    obtain ⟨⟨l, j, rfl, rfl, _, h1, h2⟩, h3, h4, h5⟩ := hp
    rw [z_fbZ] at h3
    have := AdR_con ⟨l, j, m⟩ ⟨L x, L y⟩ h1 h2 h3 h4 h5
    simp only [addT_m] at this
    have e1 := Classical.choose_spec (nat_ex0 (addT (rowT (gOwn enF (l ++ j)) l.length m) ⟨L x, L y⟩).l.length)
    have e3 := Classical.choose_spec (lf_ex (gC enF ((addT (rowT (gOwn enF (l ++ j)) l.length m) ⟨L x, L y⟩).l ++ (addT (rowT (gOwn enF (l ++ j)) l.length m) ⟨L x, L y⟩).j)))
    unfold adN adC
    rw [e1, e3, row_T]
    exact this
  · simp at he
theorem eResR_ok : EntOk Try.prog eResR := by
  intro a rows p v n' rl he hp
  simp only [eResR] at he
  split at he
  · simp only [Option.some.injEq, Prod.mk.injEq] at he
    obtain ⟨rfl, rfl, rfl, rfl⟩ := he
    rename_i k n m r1
    obtain ⟨l, j, rfl, rfl, _, h1, h2⟩ := hp
    have := RsR_con ⟨l, j, m⟩ k (by simp only; omega) (by simp only; omega)
    simp only [rsT_m] at this
    have e1 := Classical.choose_spec (nat_ex0 (rsT (rowT (gOwn enF (l ++ j)) l.length m) k).l.length)
    have e3 := Classical.choose_spec (lf_ex (gC enF ((rsT (rowT (gOwn enF (l ++ j)) l.length m) k).l ++ (rsT (rowT (gOwn enF (l ++ j)) l.length m) k).j)))
    have e4 := Classical.choose_spec (in_ex (if k < 0 ∨ k > 65536 then m else k))
    have e5 := Classical.choose_spec (in_ex (rsE k))
    unfold rsN rsC rsM rsZ
    rw [e1, e3, e4, e5, row_T]
    exact this
  · simp at he
end Go.Proofs.Ytlkinjlbaeigdaa.tb
