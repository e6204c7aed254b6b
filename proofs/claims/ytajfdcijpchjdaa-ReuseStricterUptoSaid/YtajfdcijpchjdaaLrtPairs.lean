/- The pairs in the fields of a name, by the document. -/
import Derived.Test.YtajfdcijpchjdaaSz9
import Derived.Test.YtajfdcijpchjdaaRows
import Derived.Test.YtajfdcijpchjdaaLk13
import Derived.Test.YtajfdcijpchjdaaLrtOf
import Derived.Test.YtajfdcijpchjdaaLrtSplit
import Derived.Test.YtajfdcijpchjdaaLtkfacts
set_option maxRecDepth 20000
set_option linter.unusedSimpArgs false
set_option linter.unusedVariables false
namespace Go.Proofs.Ytajfdcijpchjdaa.tk
open Go Go.Ev Go.Sy Go.RowKit Go.Proofs.Ytajfdcijpchjdaa.gl
def cRp : FuncId → List Value → List Row → Option (Prop × Value × List Row)
  | 18, [.slice (some ⟨0, 0, none⟩) n 2, .string s], [r0] => some (IsF r0 n ∧ n ≤ maxLen ∧ alB r0 s ≤ 16777216, .tuple #[.string (alV r0 s), .int .i64 (alN r0 s)], [])
  | 19, [.string s], [] => some ((L s).length ≤ 16777000, .tuple #[.slice (some ⟨0, 0, none⟩) (elN s) 1, .bool (okS s)], [⟨elC s, false, .cells true⟩])
  | 37, [.string s], [] => some ((L s).length ≤ 16777000, .tuple #[.agg ⟨[.string (ofN s), .string (ofV s), .bool (ofH s)]⟩, .bool (ofB s)], [])
  | _, _, _ => none
noncomputable abbrev ERp : Env := envC Try.prog cRp (fun f => Nat.beq f 18 || Nat.beq f 19 || Nat.beq f 37)
def pRp : List Nat := [0, 1, 0, 1, 1, 1, 1, 1]
structure GRp where
  l : List Fl
  ps : List (List UInt8)
structure StRp where
  acc : List Pr
  i : Nat
def slRp (g : GRp) (s : StRp) : List (Nat × Value) := [(7, .slice (some ⟨1, 0, none⟩) g.ps.length 1), (9, .slice (some ⟨2, 0, none⟩) s.acc.length 3), (10, .int .i64 (s.i : Nat))]
def rlRp (g : GRp) (s : StRp) : List (Nat × Row) := [(0, gRo enF g.l), (1, gOwn enS g.ps), (2, gOwn enP s.acc)]
def wsRp (g : GRp) : List (Gate Unit) := [⟨.exit 0, fun _ => True, fun _ => [(9, .slice (some ⟨1, 0, none⟩) (g.ps.filterMap ofL).length 3)], fun _ => [(0, gRo enF g.l), (1, gOwn enP (g.ps.filterMap ofL))], 2⟩]
def specRp : Sy.Spec := specOf 1 3 46 (fun g : GRp => g.ps.length ≤ 16777100 ∧ ∀ x ∈ g.ps, x.length ≤ 16777000) (fun g => slRp g ⟨[], 0⟩) (fun g => rlRp g ⟨[], 0⟩) wsRp
def mRp := mOf [(22, pRp, specRp)]
theorem Rp_round (g : GRp) (s : StRp) (Inv : StRp → Prop) (m : StRp → Nat) : mev ERp noM 60 22 (0 :: pRp) false (codeOf Try.prog 22 (0 :: pRp)) ⟨mkOv (slRp g s), 46, []⟩ none ⟨mkR (rlRp g s), 3⟩ (roundK 1 3 46 Inv m (slRp g) (rlRp g) (wsRp g) s) =
  let z1 := (cellS (gC enS g.2) (0 + Int.toNat (↑s.2 : Int) * 1)); let z2 := (Eq (α := List Value) (gC enF g.1) (gC enF g.1)); let z3 := (Eq (α := List Value) (gC enS g.2)
  (gC enS g.2)); (br (decide ((↑s.2 : Int) < Int.ofNat (List.length g.2))) (br (decide ((0 : Int) <= (↑s.2 : Int) /\ (↑s.2 : Int) < (↑(List.length g.2) : Int))) ((Eq (α :=
  Option Value) ((gC enS g.2)[0 + Int.toNat (↑s.2 : Int) * 1]?) (some (Value.string z1))) /\ ((((True /\ True) /\ (True /\ List.length (L z1) <= 16777000))) /\ (br (ofB z1)
  (br (decide (List.length s.1 + 1 <= 16777216)) (br (decide (0 + List.length s.1 * 3 <= List.length (gC enP s.1))) (∃ j : StRp, ((Inv j) /\ ((m j < m s) /\ ((0 = 0) /\
  ((List.length g.2 = List.length g.2) /\ ((0 = 0) /\ ((List.length j.1 = List.length s.1 + 1) /\ (((↑j.2 : Int) = IntKind.wrap IntKind.i64 ((↑s.2 : Int) + (1 : Int))) /\
  (z2 /\ ((Plain (gC enF g.1)) /\ (z3 /\ ((Plain (gC enS g.2)) /\ ((Eq (α := List Value) (gC enP j.1) (List.take (List.length s.1 * 3) (List.drop 0 (gC enP s.1)) ++
  [Value.string (ofN z1), Value.string (ofV z1), Value.bool (ofH z1)])) /\ ((Plain (gC enP j.1)) /\ True)))))))))))))) False) False) (∃ j : StRp, ((Inv j) /\ ((m j < m s) /\
  ((0 = 0) /\ ((List.length g.2 = List.length g.2) /\ ((0 = 0) /\ ((List.length j.1 = List.length s.1) /\ (((↑j.2 : Int) = IntKind.wrap IntKind.i64 ((↑s.2 : Int) + (1 :
  Int))) /\ (z2 /\ ((Plain (gC enF g.1)) /\ (z3 /\ ((Plain (gC enS g.2)) /\ ((Eq (α := List Value) (gC enP j.1) (gC enP s.1)) /\ ((Plain (gC enP j.1)) /\
  True))))))))))))))))) False) (∃ y : Unit, ((True) /\ ((0 = 0) /\ ((List.length (List.filterMap ofL g.2) = List.length s.1) /\ (z2 /\ ((Plain (gC enF g.1)) /\ ((Eq (α :=
  List Value) (gC enP (List.filterMap ofL g.2)) (gC enP s.1)) /\ ((Plain (gC enP (List.filterMap ofL g.2))) /\ True))))))))) := by kernel_rfl
theorem Rp_vc (l : List Fl) (nm : List UInt8) (p : List Pr) : mcall ERp mRp 60 22 [.slice (some ⟨0, 0, none⟩) l.length 2, .string (bs nm)] ⟨mkR (nums 0 [gRo enF l]), 1⟩ (retIs 1 (.slice (some ⟨1, 0, none⟩) p.length 3) [gRo enF l, gOwn enP p]) =
  let z1 := (Row.mk (List.take (List.length l * 2) (List.drop 0 (gC enF l))) true (Ob.cells true)); (((((0 + List.length l * 2 <= List.length (gC enF l) /\ Plain (List.take
  (List.length l * 2) (List.drop 0 (gC enF l)))) /\ (True /\ True)) /\ (True /\ (IsF z1 (List.length l) /\ (List.length l <= 9223372036854775807 /\ alB z1 (bs nm) <=
  16777216))))) /\ ((((True /\ True) /\ ((Plain (elC (alV z1 (bs nm))) /\ True) /\ List.length (L (alV z1 (bs nm))) <= 16777000))) /\ (br (!okS (alV z1 (bs nm)))
  ((List.length p = 0) /\ ((Eq (α := List Value) (gC enF l) (gC enF l)) /\ ((Plain (gC enF l)) /\ ((Eq (α := List Value) (gC enP p) ([])) /\ True)))) (∃ g : GRp,
  ((List.length g.2 <= 16777100 /\ ∀ (x : List UInt8), x ∈ GRp.ps g → List.length x <= 16777000) /\ ((0 = 0) /\ ((List.length g.2 = elN (alV z1 (bs nm))) /\ ((0 = 0) /\ (((0
  : Int) = (0 : Int)) /\ ((Eq (α := List Value) (gC enF g.1) (gC enF l)) /\ ((Plain (gC enF g.1)) /\ ((Eq (α := List Value) (gC enS g.2) (elC (alV z1 (bs nm)))) /\ ((Plain
  (gC enS g.2)) /\ ((Eq (α := List Value) ([]) ([])) /\ (∀ (y : Unit), ((True) → ((0 = 0) /\ ((List.length p = List.length (List.filterMap ofL g.2)) /\ ((Eq (α := List
  Value) (gC enF l) (gC enF g.1)) /\ ((Plain (gC enF l)) /\ ((Eq (α := List Value) (gC enP p) (gC enP (List.filterMap ofL g.2))) /\ ((Plain (gC enP p)) /\
  True)))))))))))))))))))))) := by kernel_rfl
theorem cRp_ok : ∀ f a rows p v news, cRp f a rows = some (p, v, news) → p → Con Try.prog f a rows v (rows ++ news) := by
  intro f a rows p v news h hp
  unfold cRp at h
  split at h <;> simp only [Option.some.injEq, Prod.mk.injEq, reduceCtorEq] at h <;> obtain ⟨rfl, rfl, rfl⟩ := h
  · obtain ⟨⟨l, rfl, rfl⟩, h1, h2⟩ := hp
    have e : decF (gRo enF l).cells = l := decF_gC l
    simp only [alV, alN, alB, e, List.append_nil] at h2 ⊢
    exact Ra_con l (L _) h1 h2
  · exact Rs_con (L _) hp
  · exact Ro_con (L _) hp
theorem Rp_piece : PieceOk ERp 1 (22, pRp, specRp) := by
  refine piece_loop mixed (calls_envC cRp_ok) (lok_envC _ _ _) lm_none (n := 60) (by kernel_rfl) (fun _ : GRp => (⟨[], 0⟩ : StRp)) (fun g s => s.i ≤ g.ps.length ∧ s.acc.length ≤ s.i ∧ s.acc ++ (g.ps.drop s.i).filterMap ofL = g.ps.filterMap ofL) (fun g s => g.ps.length - s.i) (sl := slRp) (rl := rlRp) (fun g hg => ⟨Nat.zero_le _, Nat.le_refl _, rfl⟩) (fun g s hg hi => ?_)
  refine (Rp_round g s _ _).mpr ?_
  obtain ⟨l, ps⟩ := g
  obtain ⟨acc, i⟩ := s
  obtain ⟨h1, h2, h3⟩ := hi
  obtain ⟨g1, g2⟩ := hg
  have hm : maxLen = 9223372036854775807 := by unfold maxLen; rfl
  simp only at h1 h2 h3 g1 g2
  simp only [ofNat_eq, toNat_cast, Nat.zero_add, Nat.add_zero, Nat.mul_one, List.drop_zero, bCells_len, bCells_drop, bCells_take, bCells_app, bCells_one, bCells_plain, List.length_replicate, List.length_append, List.length_take, List.length_drop, List.take_length, and_true, true_and, and_self, decide_true, List.length_nil, List.length_cons, Nat.sub_zero, dB_mk, dB_ro, List.take_zero, fPl, sPl, pPl, sLen, pLen]
  refine br_if (fun h => br_dec (by omega) ?_) (fun h => ?_)
  rotate_left
  · have hz : ps.drop i = [] := List.drop_eq_nil_of_le (by omega)
    rw [hz, List.filterMap_nil, List.append_nil] at h3
    subst h3
    exact ⟨(), rfl, rfl⟩
  have hi : i < ps.length := by omega
  obtain ⟨c1, c2⟩ := sGet ps i hi
  have hd := List.drop_eq_getElem_cons hi
  rw [hd, List.filterMap_cons] at h3
  have w := i64_succ (show i < 9223372036854775807 by omega)
  obtain ⟨o1, o2, o3, o4⟩ := of_bs ps[i]
  have hx := g2 _ (List.getElem_mem hi)
  simp only [c1, c2, true_and, w, o1, o2, o3, o4, bs_len, pOne1, pTake, gC_app]
  refine ⟨hx, br_intro (fun k => br_dec (by omega) (br_dec (Nat.le_refl _) ?_)) (fun k => ?_)⟩
  · obtain ⟨p, hp⟩ : ∃ p, ofL ps[i] = some p := Option.isSome_iff_exists.1 k
    rw [hp] at h3 ⊢
    refine ⟨⟨acc ++ [p], i + 1⟩, ⟨by simp only; omega, by simp; omega, ?_⟩, by simp only; omega, by simp, rfl, rfl⟩
    simpa using h3
  · have hp : ofL ps[i] = none := by simpa using k
    rw [hp] at h3
    exact ⟨⟨acc, i + 1⟩, ⟨by simp only; omega, by simp only; omega, h3⟩, by simp only; omega, rfl, rfl, rfl⟩
theorem Rp_con (l : List Fl) (nm : List UInt8) (hl : l.length ≤ maxLen) (h : (allL l nm).length ≤ 16777000) : Con Try.prog 22 [.slice (some ⟨0, 0, none⟩) l.length 2, .string (bs nm)] [gRo enF l] (.slice (some ⟨1, 0, none⟩) (pairsL l nm).length 3) [gRo enF l, gOwn enP (pairsL l nm)] := by
  refine con_vc (E := ERp) mixed (calls_envC cRp_ok) (lok_envC _ _ _) (M := mRp) (lm_one Rp_piece) (Rp_vc l nm _) ?_
  have e : ∀ b o, alV ⟨gC enF l, b, o⟩ (bs nm) = bs (allL l nm) := fun b o => by unfold alV; simp only; rw [decF_gC, L_bs]
  have eb : ∀ b o, alB ⟨gC enF l, b, o⟩ (bs nm) = (allL l nm).length := fun b o => by unfold alB; simp only; rw [decF_gC, L_bs]
  simp only [ofNat_eq, toNat_cast, Nat.zero_add, Nat.add_zero, Nat.mul_one, List.drop_zero, bCells_len, bCells_drop, bCells_take, bCells_app, bCells_one, bCells_plain, List.length_replicate, List.length_append, List.length_take, List.length_drop, List.take_length, and_true, true_and, and_self, decide_true, List.length_nil, List.length_cons, Nat.sub_zero, dB_mk, dB_ro, List.take_zero, bs_d, fPl, sPl, pPl, fTake, fLen, e, eb, elN_bs, elC_bs, okS_bs, bs_len]
  have hm : maxLen = 9223372036854775807 := by unfold maxLen; rfl
  have hl2 := split_len (allL l nm)
  refine ⟨⟨Nat.le_refl _, isF_mk _ _ rfl, by omega, by omega⟩, h, br_intro (fun k => ?_) (fun k => ?_)⟩
  · have : pairsL l nm = [] := by
      rw [pairs_el]
      unfold okSp at k
      unfold elSp
      cases hs : splitL (allL l nm) with
      | none => rfl
      | some r => rw [hs] at k; simp at k
    rw [this]; exact ⟨rfl, rfl⟩
  · rw [pairs_el]
    refine ⟨⟨l, elSp (allL l nm)⟩, ⟨?_, fun x hx => ?_⟩, rfl, rfl, rfl, fun _ _ => ⟨rfl, rfl, rfl⟩⟩
    · have := hl2.2; simp only; unfold elSp; omega
    · have := hl2.1 x hx; omega
end Go.Proofs.Ytajfdcijpchjdaa.tk
