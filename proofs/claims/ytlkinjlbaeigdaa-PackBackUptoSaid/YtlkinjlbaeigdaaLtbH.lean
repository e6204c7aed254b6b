/- The dynamic table: a field's number. -/
import Derived.Test.YtlkinjlbaeigdaaSz9
import Derived.Test.YtlkinjlbaeigdaaRows
import Derived.Test.YtlkinjlbaeigdaaLtbG
set_option maxRecDepth 20000
set_option linter.unusedSimpArgs false
set_option linter.unusedVariables false
namespace Go.Proofs.Ytlkinjlbaeigdaa.tb
open Go Go.Ev Go.Sy Go.RowKit Go.Proofs.Ytlkinjlbaeigdaa.gl Go.Proofs.Ytlkinjlbaeigdaa.tk
open Classical in
noncomputable def fndN (l : List Fl) (f : Fl) : Nat → Nat → Int → Int × Bool
  | 0, _, nm => (nm, false)
  | k + 1, i, nm => if (getF l (i : Nat)).1.n = f.n ∧ (getF l (i : Nat)).1.v = f.v then (((i : Nat) : Int), true) else fndN l f k (i + 1) (if nm = 0 ∧ (getF l (i : Nat)).1.n = f.n then ((i : Nat) : Int) else nm)
noncomputable def fndF (l : List Fl) (f : Fl) : Int × Bool := fndN l f (61 + l.length) 1 0
theorem fi_ex (f : List Fl → Fl → Int) : ∃ g, g = f := ⟨f, rfl⟩
noncomputable def fiF : List Fl → Fl → Int := Classical.choose (fi_ex fun l f => (fndF l f).1)
structure GFn where
  l : List Fl
  j : List Fl
  s : Int
  m : Int
  f : Fl
def slF (_ : GFn) (x : Nat × Int) : List (Nat × Value) := [(0, .pointer (some ⟨0, 0, none⟩)), (3, .pointer (some ⟨2, 0, none⟩)), (6, .int .i64 x.2), (7, .int .i64 (x.1 : Nat))]
def rwF (g : GFn) : List (Nat × Row) := [(0, tcC g.l.length g.s g.m), (1, gOwn enF (g.l ++ g.j)), (2, ⟨[.string (bs g.f.n), .string (bs g.f.v)], false, .cells false⟩)]
def rwF2 (g : GFn) : List (Nat × Row) := [(0, tcC g.l.length g.s g.m), (1, gOwn enF (g.l ++ g.j))]
noncomputable def wsF (g : GFn) : List (Gate Unit) := [⟨.exit 0, fun _ => (fndF g.l g.f).2 = false, fun _ => [(0, .pointer (some ⟨0, 0, none⟩)), (6, .int .i64 (fiF g.l g.f))], fun _ => rwF2 g, 3⟩, ⟨.ret, fun _ => (fndF g.l g.f).2 = true, fun _ => [(0, .pointer (some ⟨0, 0, none⟩)), (4, .int .i64 (fiF g.l g.f)), (5, .bool true)], fun _ => rwF2 g, 3⟩]
noncomputable def specF : Sy.Spec := specOf 2 3 41 (fun g : GFn => g.l.length ≤ 16777216) (fun g => slF g (1, 0)) (fun g => rwF g) wsF
noncomputable def mF := mOf [(43, [0, 1, 0, 1, 1], specF)]
noncomputable def tFn : List EntM := [eGetT]
noncomputable abbrev EtFn : Env := envT Try.prog tFn
theorem rsi_ex (f : Row → Nat → ByteArray → ByteArray → Int) : ∃ g, g = f := ⟨f, rfl⟩
theorem rsb_ex (f : Row → Nat → ByteArray → ByteArray → Bool) : ∃ g, g = f := ⟨f, rfl⟩
noncomputable def fdI : Row → Nat → ByteArray → ByteArray → Int := Classical.choose (rsi_ex fun r n a b => (fndF ((decF r.cells).take n) ⟨L a, L b⟩).1)
noncomputable def fdB : Row → Nat → ByteArray → ByteArray → Bool := Classical.choose (rsb_ex fun r n a b => (fndF ((decF r.cells).take n) ⟨L a, L b⟩).2)
noncomputable def eFndT : EntM := (43, fun a r => match a, r with
  | [.pointer (some ⟨0, 0, none⟩), .agg ⟨[.string x, .string y]⟩], [⟨[.slice (some ⟨1, 0, none⟩) n 2, .int .i64 s, .int .i64 m], false, .cells false⟩, r1] =>
    some (IsTg r1 n, .tuple #[.int .i64 (fdI r1 n x y), .bool (fdB r1 n x y)], 2, [(0, ⟨[.slice (some ⟨1, 0, none⟩) n 2, .int .i64 s, .int .i64 m], false, .cells false⟩), (1, r1)])
  | _, _ => none)
theorem Fn_round (g : GFn) (x : Nat × Int) (Inv : Nat × Int → Prop) (m : Nat × Int → Nat) : mev EtFn noM 60 43 (0 :: [0, 1, 0, 1, 1]) false (codeOf Try.prog 43 (0 :: [0, 1, 0, 1, 1])) ⟨mkOv (slF g x), 41, []⟩ none ⟨mkR (rwF g), 3⟩ (roundK 2 3 41 Inv m (slF g) (fun _ => rwF g) (wsF g) x) =
  (br (decide ((↑x.1 : Int) <= IntKind.wrap IntKind.i64 ((61 : Int) + Int.ofNat (List.length g.1)))) ((((True /\ (True /\ True)) /\ (((True /\ (True /\ (True /\ True))) /\
  (Plain (gC enF (g.1 ++ g.2)) /\ True)) /\ ((Plain (gC enF (g.1 ++ g.2)) /\ True) /\ (IsTg (Row.mk (gC enF (g.1 ++ g.2)) false (Ob.cells true)) (List.length g.1) /\ I64
  (↑x.1 : Int)))))) /\ (br (gfA (Row.mk (gC enF (g.1 ++ g.2)) false (Ob.cells true)) (List.length g.1) (↑x.1 : Int) == bs g.5.1 && (gfB (Row.mk (gC enF (g.1 ++ g.2)) false
  (Ob.cells true)) (List.length g.1) (↑x.1 : Int) == bs g.5.2 && true)) (∃ y : Unit, (((fndF g.1 (GFn.f g)).2 = true) /\ ((0 = 0) /\ ((fiF g.1 (GFn.f g) = (↑x.1 : Int)) /\
  ((true = true) /\ ((0 = 0) /\ ((List.length g.1 = List.length g.1) /\ ((g.3 = g.3) /\ ((g.4 = g.4) /\ ((Eq (α := List Value) (gC enF (g.1 ++ g.2)) (gC enF (g.1 ++ g.2)))
  /\ ((Plain (gC enF (g.1 ++ g.2))) /\ True))))))))))) (br (x.2 == (0 : Int)) (br (strEq (gfA (Row.mk (gC enF (g.1 ++ g.2)) false (Ob.cells true)) (List.length g.1) (↑x.1 :
  Int)) (bs g.5.1)) (∃ j : Nat × Int, ((Inv j) /\ ((m j < m x) /\ ((0 = 0) /\ ((0 = 0) /\ ((j.2 = (↑x.1 : Int)) /\ (((↑j.1 : Int) = IntKind.wrap IntKind.i64 ((↑x.1 : Int) +
  (1 : Int))) /\ ((0 = 0) /\ ((List.length g.1 = List.length g.1) /\ ((g.3 = g.3) /\ ((g.4 = g.4) /\ ((Eq (α := List Value) (gC enF (g.1 ++ g.2)) (gC enF (g.1 ++ g.2))) /\
  ((Plain (gC enF (g.1 ++ g.2))) /\ ((bs g.5.1 = bs g.5.1) /\ ((bs g.5.2 = bs g.5.2) /\ True))))))))))))))) (∃ j : Nat × Int, ((Inv j) /\ ((m j < m x) /\ ((0 = 0) /\ ((0 =
  0) /\ ((j.2 = x.2) /\ (((↑j.1 : Int) = IntKind.wrap IntKind.i64 ((↑x.1 : Int) + (1 : Int))) /\ ((0 = 0) /\ ((List.length g.1 = List.length g.1) /\ ((g.3 = g.3) /\ ((g.4 =
  g.4) /\ ((Eq (α := List Value) (gC enF (g.1 ++ g.2)) (gC enF (g.1 ++ g.2))) /\ ((Plain (gC enF (g.1 ++ g.2))) /\ ((bs g.5.1 = bs g.5.1) /\ ((bs g.5.2 = bs g.5.2) /\
  True)))))))))))))))) (∃ j : Nat × Int, ((Inv j) /\ ((m j < m x) /\ ((0 = 0) /\ ((0 = 0) /\ ((j.2 = x.2) /\ (((↑j.1 : Int) = IntKind.wrap IntKind.i64 ((↑x.1 : Int) + (1 :
  Int))) /\ ((0 = 0) /\ ((List.length g.1 = List.length g.1) /\ ((g.3 = g.3) /\ ((g.4 = g.4) /\ ((Eq (α := List Value) (gC enF (g.1 ++ g.2)) (gC enF (g.1 ++ g.2))) /\
  ((Plain (gC enF (g.1 ++ g.2))) /\ ((bs g.5.1 = bs g.5.1) /\ ((bs g.5.2 = bs g.5.2) /\ True)))))))))))))))))) (∃ y : Unit, (((fndF g.1 (GFn.f g)).2 = false) /\ ((0 = 0) /\
  ((fiF g.1 (GFn.f g) = x.2) /\ ((0 = 0) /\ ((List.length g.1 = List.length g.1) /\ ((g.3 = g.3) /\ ((g.4 = g.4) /\ ((Eq (α := List Value) (gC enF (g.1 ++ g.2)) (gC enF (g.1
  ++ g.2))) /\ ((Plain (gC enF (g.1 ++ g.2))) /\ True))))))))))) := by kernel_rfl
theorem Fn_vc (l j : List Fl) (s m : Int) (f : Fl) (k : Int) (b : Bool) : mcall EtFn mF 60 43 [.pointer (some ⟨0, 0, none⟩), .agg ⟨[.string (bs f.n), .string (bs f.v)]⟩] ⟨mkR (nums 0 [tcC l.length s m, gOwn enF (l ++ j)]), 2⟩ (retIsM 2 (.tuple #[.int .i64 k, .bool b]) 2 [(0, tcC l.length s m), (1, gOwn enF (l ++ j))]) =
  (∃ g : GFn, ((List.length g.1 <= 16777216) /\ ((0 = 0) /\ ((0 = 0) /\ (((0 : Int) = (0 : Int)) /\ (((1 : Int) = (1 : Int)) /\ ((0 = 0) /\ ((List.length g.1 = List.length
  l) /\ ((g.3 = s) /\ ((g.4 = m) /\ ((Eq (α := List Value) (gC enF (g.1 ++ g.2)) (gC enF (l ++ j))) /\ ((Plain (gC enF (g.1 ++ g.2))) /\ ((bs g.5.1 = bs f.1) /\ ((bs g.5.2 =
  bs f.2) /\ (∀ (side : Bool), (br (side) (∀ (y : Unit), (((fndF g.1 (GFn.f g)).2 = false) → ((k = fiF g.1 (GFn.f g)) /\ ((b = false) /\ ((0 = 0) /\ ((List.length l =
  List.length g.1) /\ ((s = g.3) /\ ((m = g.4) /\ ((Eq (α := List Value) (gC enF (l ++ j)) (gC enF (g.1 ++ g.2))) /\ ((Plain (gC enF (l ++ j))) /\ True)))))))))) (∀ (y :
  Unit), (((fndF g.1 (GFn.f g)).2 = true) → ((k = fiF g.1 (GFn.f g)) /\ ((b = true) /\ ((0 = 0) /\ ((List.length l = List.length g.1) /\ ((s = g.3) /\ ((m = g.4) /\ ((Eq (α
  := List Value) (gC enF (l ++ j)) (gC enF (g.1 ++ g.2))) /\ ((Plain (gC enF (l ++ j))) /\ True)))))))))))))))))))))))))) := by kernel_rfl
theorem z_fiF : fiF = fun l f => (fndF l f).1 := Classical.choose_spec (fi_ex _)
theorem tFn_ok : ∀ x ∈ tFn, EntOk Try.prog x := all_cons eGetT_ok (all_nil)
theorem bq_bs (a b : List UInt8) : (bs a == bs b) = decide (a = b) := by
  have e : (bs a == bs b) = (a.toArray == b.toArray) := rfl
  rw [e]
  by_cases h : a = b
  · subst h; simp
  · have : a.toArray ≠ b.toArray := fun e => h (by simpa using e)
    simp [h]
theorem isTg_mk (l j : List Fl) (h : l.length ≤ 16777216) : IsTg ⟨gC enF (l ++ j), false, .cells true⟩ l.length := ⟨l, j, rfl, rfl, h⟩
theorem F_piece : PieceOk EtFn 2 (43, [0, 1, 0, 1, 1], specF) := by
  refine piece_loop mixed (calls_envT tFn_ok) (lok_envT _ _) lm_none (n := 60) (by kernel_rfl) (fun _ : GFn => ((1, 0) : Nat × Int)) (fun g x => x.1 ≤ 62 + g.l.length ∧ fndF g.l g.f = fndN g.l g.f (62 + g.l.length - x.1) x.1 x.2) (fun g x => 62 + g.l.length - x.1) (sl := slF) (rl := fun g _ => rwF g) (fun g hg => ⟨by simp only; omega, by unfold fndF; congr 1; simp only; omega⟩) (fun g x hg hi => ?_)
  refine (Fn_round g x _ _).mpr ?_
  obtain ⟨i, nm⟩ := x
  obtain ⟨h1, h2⟩ := hi
  simp only at h1 h2
  obtain ⟨e1, e2, e3⟩ := gf_mk g.l g.j false (.cells true) (i : Nat)
  have ws : IntKind.i64.wrap ((i : Int) + 1) = ((i + 1 : Nat) : Int) := by rw [wr64_id (by unfold I64; omega)]; omega
  have wt : IntKind.i64.wrap (61 + (g.l.length : Int)) = 61 + (g.l.length : Int) := wr64_id (by unfold I64; omega)
  simp only [ofNat_eq, toNat_cast, Nat.zero_add, Nat.add_zero, Nat.mul_one, List.drop_zero, bCells_len, bCells_drop, bCells_take, bCells_app, bCells_one, bCells_plain, List.length_replicate, List.length_append, List.length_take, List.length_drop, List.take_length, and_true, true_and, and_self, decide_true, List.length_nil, List.length_cons, Nat.sub_zero, dB_mk, dB_ro, List.take_zero, z_fiF, e1, e2, e3, strEq_bs, bq_bs, ws, wt]
  refine br_if (fun h => ⟨⟨fPl _, fPl _, isTg_mk _ _ hg, by unfold I64; omega⟩, ?_⟩) (fun h => ?_)
  · obtain ⟨k, hk⟩ : ∃ k, 62 + g.l.length - i = k + 1 := ⟨61 + g.l.length - i, by omega⟩
    rw [hk, fndN] at h2
    have hk2 : k = 62 + g.l.length - (i + 1) := by omega
    simp only [Bool.and_true, br_iff, Bool.and_eq_true, Bool.and_eq_false_iff, decide_eq_true_eq, decide_eq_false_iff_not, beq_iff_eq, beq_eq_false_iff_ne]
    refine ⟨fun hh => ?_, fun hh => ?_⟩
    · rw [if_pos hh] at h2
      exact ⟨(), by rw [h2], by rw [h2], fPl _⟩
    · have hh' : ¬ ((getF g.l (i : Nat)).1.n = g.f.n ∧ (getF g.l (i : Nat)).1.v = g.f.v) := by
        rintro ⟨u1, u2⟩
        rcases hh with u | u
        · exact u u1
        · exact u u2
      rw [if_neg hh', hk2] at h2
      refine ⟨fun hn => ⟨fun hm => ?_, fun hm => ?_⟩, fun hn => ?_⟩
      · rw [if_pos ⟨hn, hm⟩] at h2
        exact ⟨(i + 1, (i : Nat)), ⟨by simp only; omega, h2⟩, by simp only; omega, rfl, rfl, fPl _⟩
      · rw [if_neg (fun u => hm u.2)] at h2
        exact ⟨(i + 1, nm), ⟨by simp only; omega, h2⟩, by simp only; omega, rfl, rfl, fPl _⟩
      · rw [if_neg (fun u => hn u.1)] at h2
        exact ⟨(i + 1, nm), ⟨by simp only; omega, h2⟩, by simp only; omega, rfl, rfl, fPl _⟩
  · have : 62 + g.l.length - i = 0 := by omega
    rw [this, fndN] at h2
    exact ⟨(), by rw [h2], by rw [h2], fPl _⟩
theorem Fn_con (l j : List Fl) (s m : Int) (f : Fl) (hl : l.length ≤ 16777216) : ConM Try.prog 43 [.pointer (some ⟨0, 0, none⟩), .agg ⟨[.string (bs f.n), .string (bs f.v)]⟩] [tcC l.length s m, gOwn enF (l ++ j)] (.tuple #[.int .i64 (fndF l f).1, .bool (fndF l f).2]) 2 [(0, tcC l.length s m), (1, gOwn enF (l ++ j))] := by
  refine conM_vc (E := EtFn) mixed (calls_envT tFn_ok) (lok_envT _ _) (M := mF) (lm_one F_piece) (Fn_vc l j s m f _ _) ?_
  simp only [ofNat_eq, toNat_cast, Nat.zero_add, Nat.add_zero, Nat.mul_one, List.drop_zero, bCells_len, bCells_drop, bCells_take, bCells_app, bCells_one, bCells_plain, List.length_replicate, List.length_append, List.length_take, List.length_drop, List.take_length, and_true, true_and, and_self, decide_true, List.length_nil, List.length_cons, Nat.sub_zero, dB_mk, dB_ro, List.take_zero, z_fiF]
  exact ⟨⟨l, j, s, m, f⟩, hl, rfl, rfl, rfl, rfl, fPl _, rfl, rfl, fun side => br_iff.2 ⟨fun _ _ h => ⟨rfl, h, rfl, rfl, rfl, rfl, fPl _⟩, fun _ _ h => ⟨rfl, h, rfl, rfl, rfl, rfl, fPl _⟩⟩⟩
theorem z_fdI : fdI = fun r n a b => (fndF ((decF r.cells).take n) ⟨L a, L b⟩).1 := Classical.choose_spec (rsi_ex _)
theorem z_fdB : fdB = fun r n a b => (fndF ((decF r.cells).take n) ⟨L a, L b⟩).2 := Classical.choose_spec (rsb_ex _)
theorem fd_mk (l j : List Fl) (b : Bool) (o : Ob) (x y : List UInt8) : fdI ⟨gC enF (l ++ j), b, o⟩ l.length (bs x) (bs y) = (fndF l ⟨x, y⟩).1 ∧ fdB ⟨gC enF (l ++ j), b, o⟩ l.length (bs x) (bs y) = (fndF l ⟨x, y⟩).2 := by
  refine ⟨?_, ?_⟩
  · rw [z_fdI]
    simp only [decF_gC, List.take_left]
    rfl
  · rw [z_fdB]
    simp only [decF_gC, List.take_left]
    rfl
theorem eFndT_ok : EntOk Try.prog eFndT := by
  intro a rows p v n' rl he hp
  simp only [eFndT] at he
  split at he
  · simp only [Option.some.injEq, Prod.mk.injEq] at he
    obtain ⟨rfl, rfl, rfl, rfl⟩ := he
    rename_i x y n s m r1
    obtain ⟨l, j, rfl, rfl, h1⟩ := hp
    obtain ⟨e1, e2⟩ := fd_mk l j false (.cells true) (L x) (L y)
    rw [bsL, bsL] at e1 e2
    unfold gOwn
    rw [e1, e2]
    exact Fn_con l j s m ⟨L x, L y⟩ h1
  · simp at he
end Go.Proofs.Ytlkinjlbaeigdaa.tb
