/- GuardFirst: what the law tells of rows of steps. -/
import Derived.Test.YtekijelmdajhlaaSz9
import Derived.Test.YtekijelmdajhlaaRows
import Derived.Test.YtekijelmdajhlaaLgfA
set_option linter.unusedSimpArgs false
set_option linter.unusedVariables false
namespace Go.Proofs.Ytekijelmdajhlaa.gp
open Go Go.Ev Go.Sy Go.RowKit Go.Proofs.Ytekijelmdajhlaa.gl Go.Proofs.Ytekijelmdajhlaa.tk Go.Proofs.Ytekijelmdajhlaa.ic Go.Proofs.Ytekijelmdajhlaa.gm
structure FR where
  ns : List Int
  pl : Int
  h : Int
  c : Int
  p : Int
noncomputable def ftl : List (List Ac) → Nat → FR
  | [], _ => ⟨[], -1, 0, 0, 0⟩
  | l :: r, k => if (tl l).how = 0 then ⟨(tl l).ns ++ (ftl r (k + 1)).ns, (ftl r (k + 1)).pl, (ftl r (k + 1)).h, (ftl r (k + 1)).c, (ftl r (k + 1)).p⟩
    else ⟨(tl l).ns, if (tl l).how = 1 then (k : Int) else -1, (tl l).how, (tl l).code, (tl l).pos⟩
structure GF where
  rr : List (List Ac)
  n : Nat
structure SF where
  i : Nat
  acc : List Int
  pl : Int
  h : Int
  c : Int
  p : Int
noncomputable def subs (g : GF) : List (List Ac) := (List.range g.n).map (sbR g.rr)
def pF : List Nat := [0, 1, 0, 1, 1, 1, 1]
def slF (i : Nat) (acc : List Int) (pl : Int) : List (Nat × Value) := [(1, .pointer (some ⟨1, 0, none⟩)), (3, .slice (some ⟨4, 0, none⟩) acc.length 1), (4, .pointer (some ⟨2, 0, none⟩)), (5, .int .i64 pl), (6, .pointer (some ⟨3, 0, none⟩)), (7, .int .i64 (i : Nat))]
noncomputable def rlF (g : GF) (acc : List Int) (h c p : Int) : List (Nat × Row) := [(0, gRo enR g.rr), (1, ⟨[.slice (some ⟨0, 0, none⟩) g.n 1], false, .cells false⟩), (2, ⟨[.slice none 0 0], false, .cells false⟩), (3, ⟨[.int .i64 h, .int .i64 c, .int .i64 p], false, .cells false⟩), (4, iOwn .i64 acc)]
noncomputable def wsF (g : GF) : List (Gate FR) := [⟨.exit 0, fun y => y = ftl (subs g) 0, fun y => [(1, .pointer (some ⟨1, 0, none⟩)), (3, .slice (some ⟨4, 0, none⟩) y.ns.length 1), (4, .pointer (some ⟨2, 0, none⟩)), (5, .int .i64 y.pl), (6, .pointer (some ⟨3, 0, none⟩))], fun y => rlF g y.ns y.h y.c y.p, 5⟩]
def PF (g : GF) : Prop := g.n ≤ 8 ∧ g.n ≤ g.rr.length ∧ ∀ l ∈ g.rr, OkR l
noncomputable def specF (n : Nat) : Sy.Spec := specOf 1 5 130 (fun rr => PF ⟨rr, n⟩) (fun _ => slF 0 [] (-1)) (fun rr => rlF ⟨rr, n⟩ [] 0 0 0) (fun rr => wsF ⟨rr, n⟩)
noncomputable def tFl : List EntM := [eTo 41, eF1, eSame, eRunsP]
def capF (f : FuncId) : List TypeId := bif Nat.beq f 29 then [1000044, 1000003, 41] else []
noncomputable abbrev EFl : Env := envTd Try.prog tFl capF
theorem F_round (g : GF) (s : SF) (Inv : SF → Prop) (m : SF → Nat) : mev EFl noM 60 5 (0 :: pF) false (codeOf Try.prog 5 (0 :: pF)) ⟨mkOv (slF s.i s.acc s.pl), 130, []⟩ none ⟨mkR (rlF g s.acc s.h s.c s.p), 5⟩ (roundK 1 5 130 Inv m (fun s => slF s.i s.acc s.pl) (fun s => rlF g s.acc s.h s.c s.p) (wsF g) s) =
  let z6 := (cellZ (gC enR g.1) (0 + Int.toNat (↑s.1 : Int) * 1)); let z1 := (Row.mk (List.take (cellN (gC enR g.1) (0 + Int.toNat (↑s.1 : Int) * 1) * 5) (List.drop (cellO
  (gC enR g.1) (0 + Int.toNat (↑s.1 : Int) * 1)) (gCells z6))) true (Ob.cells true)); let z2 := (Row.mk (List.take 60 (List.drop (cellO (gC enR g.1) (0 + Int.toNat (↑s.1 :
  Int) * 1) + 0) (gCells z6))) true (Ob.cells true)); let z3 := (Row.mk (iCells IntKind.i64 s.2) false (Ob.cells true)); let z4 := (Eq (α := List Value) (gC enR g.1) (gC enR
  g.1)); let z5 := (cellN (gC enR g.1) (0 + Int.toNat (↑s.1 : Int) * 1)); let z7 := (True /\ (Plain (iCells IntKind.i64 s.2) /\ True)); (br (decide ((↑s.1 : Int) < Int.ofNat
  g.2)) (br (decide (s.3 < (0 : Int))) (br (s.4 != (2 : Int)) (br (decide ((0 : Int) <= (↑s.1 : Int) /\ (↑s.1 : Int) < (↑g.2 : Int))) ((Eq (α := Option Value) ((gC enR
  g.1)[0 + Int.toNat (↑s.1 : Int) * 1]?) (some (Value.slice (some (Addr.mk z6 (cellO (gC enR g.1) (0 + Int.toNat (↑s.1 : Int) * 1)) (some 0))) z5 5))) /\ (br (decide
  (Int.ofNat z5 > (12 : Int))) (br (decide ((0 : Int) <= (↑0 : Int) /\ (↑0 : Int) <= (12 : Int) /\ (12 : Int) <= (↑z5 : Int))) ((((cellO (gC enR g.1) (0 + Int.toNat (↑s.1 :
  Int) * 1) + 0 + 60 <= List.length (gCells z6) /\ (True /\ True)) /\ (z7 /\ ((Plain (iCells IntKind.i64 (dI z3 ++ tNs z2)) /\ True) /\ (IsA 41 z2 12 (List.length s.2) /\
  IsZ z3 (List.length s.2)))))) /\ (br (tHow z2 == (1 : Int)) (∃ j : SF, ((Inv j) /\ ((m j < m s) /\ ((0 = 0) /\ ((0 = 0) /\ ((List.length j.2 = List.length s.2 + tLn z2) /\
  ((0 = 0) /\ ((j.3 = (↑s.1 : Int)) /\ ((0 = 0) /\ (((↑j.1 : Int) = IntKind.wrap IntKind.i64 ((↑s.1 : Int) + (1 : Int))) /\ (z4 /\ ((Plain (gC enR g.1)) /\ ((0 = 0) /\ ((g.2
  = g.2) /\ ((j.4 = tHow z2) /\ ((j.5 = tCode z2) /\ ((j.6 = tPos z2) /\ ((Eq (α := List Value) (iCells IntKind.i64 j.2) (iCells IntKind.i64 (dI z3 ++ tNs z2))) /\ ((Plain
  (iCells IntKind.i64 j.2)) /\ True))))))))))))))))))) (∃ j : SF, ((Inv j) /\ ((m j < m s) /\ ((0 = 0) /\ ((0 = 0) /\ ((List.length j.2 = List.length s.2 + tLn z2) /\ ((0 =
  0) /\ ((j.3 = s.3) /\ ((0 = 0) /\ (((↑j.1 : Int) = IntKind.wrap IntKind.i64 ((↑s.1 : Int) + (1 : Int))) /\ (z4 /\ ((Plain (gC enR g.1)) /\ ((0 = 0) /\ ((g.2 = g.2) /\
  ((j.4 = tHow z2) /\ ((j.5 = tCode z2) /\ ((j.6 = tPos z2) /\ ((Eq (α := List Value) (iCells IntKind.i64 j.2) (iCells IntKind.i64 (dI z3 ++ tNs z2))) /\ ((Plain (iCells
  IntKind.i64 j.2)) /\ True))))))))))))))))))))) False) ((((cellO (gC enR g.1) (0 + Int.toNat (↑s.1 : Int) * 1) + cellN (gC enR g.1) (0 + Int.toNat (↑s.1 : Int) * 1) * 5 <=
  List.length (gCells z6) /\ (True /\ True)) /\ (z7 /\ ((Plain (iCells IntKind.i64 (dI z3 ++ tNs z1)) /\ True) /\ (IsA 41 z1 z5 (List.length s.2) /\ IsZ z3 (List.length
  s.2)))))) /\ (br (tHow z1 == (1 : Int)) (∃ j : SF, ((Inv j) /\ ((m j < m s) /\ ((0 = 0) /\ ((0 = 0) /\ ((List.length j.2 = List.length s.2 + tLn z1) /\ ((0 = 0) /\ ((j.3 =
  (↑s.1 : Int)) /\ ((0 = 0) /\ (((↑j.1 : Int) = IntKind.wrap IntKind.i64 ((↑s.1 : Int) + (1 : Int))) /\ (z4 /\ ((Plain (gC enR g.1)) /\ ((0 = 0) /\ ((g.2 = g.2) /\ ((j.4 =
  tHow z1) /\ ((j.5 = tCode z1) /\ ((j.6 = tPos z1) /\ ((Eq (α := List Value) (iCells IntKind.i64 j.2) (iCells IntKind.i64 (dI z3 ++ tNs z1))) /\ ((Plain (iCells IntKind.i64
  j.2)) /\ True))))))))))))))))))) (∃ j : SF, ((Inv j) /\ ((m j < m s) /\ ((0 = 0) /\ ((0 = 0) /\ ((List.length j.2 = List.length s.2 + tLn z1) /\ ((0 = 0) /\ ((j.3 = s.3)
  /\ ((0 = 0) /\ (((↑j.1 : Int) = IntKind.wrap IntKind.i64 ((↑s.1 : Int) + (1 : Int))) /\ (z4 /\ ((Plain (gC enR g.1)) /\ ((0 = 0) /\ ((g.2 = g.2) /\ ((j.4 = tHow z1) /\
  ((j.5 = tCode z1) /\ ((j.6 = tPos z1) /\ ((Eq (α := List Value) (iCells IntKind.i64 j.2) (iCells IntKind.i64 (dI z3 ++ tNs z1))) /\ ((Plain (iCells IntKind.i64 j.2)) /\
  True))))))))))))))))))))))) False) (∃ y : FR, ((y = ftl (subs g) 0) /\ ((0 = 0) /\ ((0 = 0) /\ ((List.length y.1 = List.length s.2) /\ ((0 = 0) /\ ((y.2 = s.3) /\ ((0 = 0)
  /\ (z4 /\ ((Plain (gC enR g.1)) /\ ((0 = 0) /\ ((g.2 = g.2) /\ ((y.3 = s.4) /\ ((y.4 = s.5) /\ ((y.5 = s.6) /\ ((Eq (α := List Value) (iCells IntKind.i64 y.1) (iCells
  IntKind.i64 s.2)) /\ ((Plain (iCells IntKind.i64 y.1)) /\ True)))))))))))))))))) (∃ y : FR, ((y = ftl (subs g) 0) /\ ((0 = 0) /\ ((0 = 0) /\ ((List.length y.1 =
  List.length s.2) /\ ((0 = 0) /\ ((y.2 = s.3) /\ ((0 = 0) /\ (z4 /\ ((Plain (gC enR g.1)) /\ ((0 = 0) /\ ((g.2 = g.2) /\ ((y.3 = s.4) /\ ((y.4 = s.5) /\ ((y.5 = s.6) /\
  ((Eq (α := List Value) (iCells IntKind.i64 y.1) (iCells IntKind.i64 s.2)) /\ ((Plain (iCells IntKind.i64 y.1)) /\ True)))))))))))))))))) (∃ y : FR, ((y = ftl (subs g) 0)
  /\ ((0 = 0) /\ ((0 = 0) /\ ((List.length y.1 = List.length s.2) /\ ((0 = 0) /\ ((y.2 = s.3) /\ ((0 = 0) /\ (z4 /\ ((Plain (gC enR g.1)) /\ ((0 = 0) /\ ((g.2 = g.2) /\
  ((y.3 = s.4) /\ ((y.4 = s.5) /\ ((y.5 = s.6) /\ ((Eq (α := List Value) (iCells IntKind.i64 y.1) (iCells IntKind.i64 s.2)) /\ ((Plain (iCells IntKind.i64 y.1)) /\
  True)))))))))))))))))) := by kernel_rfl
theorem tFl_ok : ∀ x ∈ tFl, EntOk Try.prog x := all_cons (eTo_ok 41) (all_cons eF1_ok (all_cons eSame_ok (all_cons eRunsP_ok all_nil)))
def InvF (g : GF) (s : SF) : Prop := s.i ≤ g.n ∧ s.acc.length ≤ 36 * s.i ∧
  ((s.pl = -1 ∧ s.h = 0 ∧ s.c = 0 ∧ s.p = 0 ∧ ∃ q, q = ftl ((subs g).drop s.i) s.i ∧ (⟨s.acc ++ q.ns, q.pl, q.h, q.c, q.p⟩ : FR) = ftl (subs g) 0) ∨ ((⟨s.acc, s.pl, s.h, s.c, s.p⟩ : FR) = ftl (subs g) 0 ∧ (0 ≤ s.pl ∨ s.h = 2)))
theorem part_get (rr : List (List Ac)) (i : Nat) (h : i < rr.length) : ∃ l, l ∈ rr ∧ sbR rr i = l.take 12 ∧ cellZ (gC enR rr) i = gCode (gC enA l) ∧ cellO (gC enR rr) i = 0 ∧ cellN (gC enR rr) i = l.length ∧ (gC enR rr)[i]? = some (Value.slice (some ⟨gCode (gC enA l), 0, some 0⟩) l.length 5) := by
  have hl : rr.getD i [] = rr[i] := by rw [List.getD_eq_getElem?_getD, List.getElem?_eq_getElem h]; rfl
  have g0 := gC_get0 (en := enR) (k := 1) (fun _ => rfl) rr i h (by omega)
  rw [Nat.mul_one] at g0
  refine ⟨rr[i], List.getElem_mem h, by unfold sbR; rw [hl], ?_, ?_, ?_, g0⟩
  · unfold cellZ; rw [g0]; rfl
  · unfold cellO; rw [g0]; rfl
  · unfold cellN; rw [g0]; rfl
theorem exF {g : GF} {s : SF} (hi : InvF g s) (h : ¬ s.i < g.n ∨ ¬ s.pl < 0 ∨ s.h = 2) : (⟨s.acc, s.pl, s.h, s.c, s.p⟩ : FR) = ftl (subs g) 0 := by
  obtain ⟨h1, h2, h3⟩ := hi
  rcases h3 with ⟨e1, e2, e3, e4, q, rfl, h3⟩ | ⟨h3, _⟩
  · rcases h with h | h | h
    · have : (subs g).drop s.i = [] := List.drop_eq_nil_of_le (by unfold subs; rw [List.length_map, List.length_range]; omega)
      rw [this] at h3
      rw [← h3, e1, e2, e3, e4]
      simp only [ftl, List.append_nil]
    · omega
    · omega
  · exact h3
theorem stF {g : GF} {s : SF} (hi : InvF g s) (h1 : s.i < g.n) (h2 : s.pl < 0) (h3 : ¬ s.h = 2) (j : SF) (hj : j = ⟨s.i + 1, s.acc ++ (tl (sbR g.rr s.i)).ns, if (tl (sbR g.rr s.i)).how = 1 then (s.i : Nat) else s.pl, (tl (sbR g.rr s.i)).how, (tl (sbR g.rr s.i)).code, (tl (sbR g.rr s.i)).pos⟩) : InvF g j := by
  subst hj
  obtain ⟨i1, i2, i3⟩ := hi
  have hn := tl_len _ (sbR g.rr s.i) (Nat.le_refl _)
  have hq : (sbR g.rr s.i).length ≤ 12 := by unfold sbR; rw [List.length_take]; omega
  refine ⟨by simp only; omega, by simp only [List.length_append]; omega, ?_⟩
  rcases i3 with ⟨e1, e2, e3, e4, q, rfl, h4⟩ | ⟨_, h4⟩
  · have hd : (subs g).drop s.i = sbR g.rr s.i :: (subs g).drop (s.i + 1) := by
      unfold subs
      rw [List.drop_eq_getElem_cons (by rw [List.length_map, List.length_range]; omega), List.getElem_map, List.getElem_range]
    rw [hd] at h4
    simp only [ftl] at h4
    rw [e1]
    simp only
    rcases tl_zero _ (sbR g.rr s.i) (Nat.le_refl _) with ⟨o, o1, o2⟩ | o | o
    · rw [if_pos o] at h4
      refine .inl ⟨by rw [if_neg (by omega)], o, o1, o2, _, rfl, ?_⟩
      simpa only [List.append_assoc] using h4
    · rw [if_neg (by omega)] at h4
      rw [if_pos o] at h4 ⊢
      exact .inr ⟨h4, .inl (by omega)⟩
    · rw [if_neg (by omega)] at h4
      rw [if_neg (by omega)] at h4 ⊢
      exact .inr ⟨h4, .inr o⟩
  · omega
theorem F_piece (n : Nat) : PieceOk EFl 1 (5, pF, specF n) := by
  refine piece_loop mixed (calls_envTd tFl_ok) (lok_envTd _ _ _) lm_none (n := 60) (by kernel_rfl) (fun _ : List (List Ac) => (⟨0, [], -1, 0, 0, 0⟩ : SF)) (fun rr => InvF ⟨rr, n⟩) (fun _ s => n - s.i) (sl := fun _ s => slF s.i s.acc s.pl) (rl := fun rr s => rlF ⟨rr, n⟩ s.acc s.h s.c s.p) (fun g hg => ⟨Nat.zero_le _, Nat.zero_le _, .inl ⟨rfl, rfl, rfl, rfl, _, rfl, rfl⟩⟩) (fun rr s hg hi => ?_)
  refine (F_round ⟨rr, n⟩ s _ _).mpr ?_
  have ex := exF hi
  have st := stF hi
  obtain ⟨i1, i2, _⟩ := hi
  obtain ⟨g1, g2, g3⟩ := hg
  obtain ⟨i, acc, pl, h, c, p⟩ := s
  simp only at g1 g2 g3 i1 i2 ex st
  simp only [ofNat_eq, toNat_cast, Nat.zero_add, Nat.add_zero, Nat.mul_one, List.drop_zero, bCells_len, bCells_drop, bCells_take, bCells_app, bCells_one, bCells_plain, List.length_replicate, List.length_append, List.length_take, List.length_drop, List.take_length, and_true, true_and, and_self, decide_true, List.length_nil, List.length_cons, Nat.sub_zero, dB_mk, dB_ro, List.take_zero, Int.toNat_natCast, rPl, iCells_plain, dI_mk]
  have leave : (¬ i < n ∨ ¬ pl < 0 ∨ h = 2) → ∃ y : FR, y = ftl (subs ⟨rr, n⟩) 0 ∧ y.ns.length = acc.length ∧ y.pl = pl ∧ y.h = h ∧ y.c = c ∧ y.p = p ∧ iCells .i64 y.ns = iCells .i64 acc := fun hh => ⟨⟨acc, pl, h, c, p⟩, ex hh, rfl, rfl, rfl, rfl, rfl, rfl⟩
  refine br_if (fun a1 => br_if (fun a2 => br_intro (fun a3 => br_dec (by omega) ?_) (fun a3 => leave (.inr (.inr (by simpa using a3))))) (fun a2 => leave (.inr (.inl a2)))) (fun a1 => leave (.inl (by omega)))
  have a1 : i < n := by omega
  have a3 : ¬ h = 2 := by simpa using a3
  obtain ⟨l, l1, l2, l3, l4, l5, l6⟩ := part_get rr i (by omega)
  obtain ⟨o1, o2⟩ := g3 l l1
  have w := i64_succ (show i < 9223372036854775807 by omega)
  have gc := gCells_code (aG l)
  have st := st a1 a2 a3
  rw [l2] at st
  have t12 : (gC enA l).take 60 = gC enA (l.take 12) := gC_take (en := enA) (k := 5) (fun _ => rfl) l 12
  simp only [l3, l4, l5, l6, gc, w, t12, ofNat_eq, toNat_cast, Nat.zero_add, Nat.add_zero, Nat.mul_one, List.drop_zero, bCells_len, bCells_drop, bCells_take, bCells_app, bCells_one, bCells_plain, List.length_replicate, List.length_append, List.length_take, List.length_drop, List.take_length, and_true, true_and, and_self, decide_true, List.length_nil, List.length_cons, Nat.sub_zero, dB_mk, dB_ro, List.take_zero, aPl, aLen, z_tOk, z_tRt, z_tHow, z_tDep, z_tLn, z_tNs, z_tCode, z_tPos]
  have next : ∀ x : Int, x = (if (tl (l.take 12)).how = 1 then ((i : Nat) : Int) else pl) → ∃ j : SF, InvF ⟨rr, n⟩ j ∧ n - j.i < n - i ∧ j.acc.length = acc.length + (tl (l.take 12)).ns.length ∧ j.pl = x ∧ (j.i : Int) = ((i + 1 : Nat) : Int) ∧ j.h = (tl (l.take 12)).how ∧ j.c = (tl (l.take 12)).code ∧ j.p = (tl (l.take 12)).pos ∧ iCells .i64 j.acc = iCells .i64 (acc ++ (tl (l.take 12)).ns) :=
    fun x hx => ⟨_, st _ rfl, by simp only; omega, by simp only [List.length_append], hx.symm, rfl, rfl, rfl, rfl, rfl⟩
  have fin : br ((tl (l.take 12)).how == 1) _ _ := br_intro (fun o => next _ (by rw [if_pos (by simpa using o)])) (fun o => next _ (by rw [if_neg (by simpa using o)]))
  refine br_if (fun h12 => br_dec (by omega) ⟨⟨by omega, ⟨_, rfl, by rw [List.length_take]; omega, by rw [List.length_take]; omega, fun a h => o2 a (List.mem_of_mem_take h), by rw [List.length_take]; omega⟩, ⟨_, rfl, rfl⟩⟩, fin⟩) (fun h12 => ?_)
  have e1 : l.take 12 = l := List.take_of_length_le (by omega)
  have e2 : (gC enA l).take (l.length * 5) = gC enA l := List.take_of_length_le (by rw [aLen]; omega)
  rw [e1] at fin
  simp only [e2, z_tHow, z_tLn, z_tNs, z_tCode, z_tPos]
  exact ⟨⟨by omega, ⟨_, rfl, rfl, by omega, o2, by omega⟩, ⟨_, rfl, rfl⟩⟩, fin⟩
end Go.Proofs.Ytekijelmdajhlaa.gp
