/- The pairs in the fields of a name. -/
import Derived.Test.YtideeogedleabaaSz9
import Derived.Test.YtideeogedleabaaRows
import Derived.Test.YtideeogedleabaaLtkAll
import Derived.Test.YtideeogedleabaaLtkOf
import Derived.Test.YtideeogedleabaaLtkSplit
import Derived.Test.YtideeogedleabaaLtkfacts
set_option maxRecDepth 20000
set_option linter.unusedSimpArgs false
set_option linter.unusedVariables false
namespace Go.Proofs.Ytideeogedleabaa.tk
open Go Go.Ev Go.Sy Go.RowKit Go.Proofs.Ytideeogedleabaa.gl
def cPa : FuncId → List Value → List Row → Option (Prop × Value × List Row)
  | 24, [.slice (some ⟨0, 0, none⟩) n 2, .string s], [r0] => some (IsF r0 n ∧ n ≤ maxLen ∧ alB r0 s ≤ 16777216, .tuple #[.string (alV r0 s), .int .i64 (alN r0 s)], [])
  | 56, [.string s], [] => some ((L s).length ≤ 16777000, .tuple #[.slice (some ⟨0, 0, none⟩) (elN s) 1, .bool (okS s)], [⟨elC s, false, .cells true⟩])
  | 57, [.string s], [] => some ((L s).length ≤ 16777000, .tuple #[.agg ⟨[.string (ofN s), .string (ofV s), .bool (ofH s)]⟩, .bool (ofB s)], [])
  | _, _, _ => none
noncomputable abbrev EPa : Env := envC Try.prog cPa (fun f => Nat.beq f 24 || Nat.beq f 56 || Nat.beq f 57)
def pPa : List Nat := [0, 1, 0, 1, 1, 1, 1, 1]
structure GPa where
  l : List Fl
  ps : List (List UInt8)
structure StPa where
  acc : List Pr
  i : Nat
def slPa (g : GPa) (s : StPa) : List (Nat × Value) := [(9, .slice (some ⟨2, 0, none⟩) s.acc.length 3), (27, .slice (some ⟨1, 0, none⟩) g.ps.length 1), (28, .int .i64 (g.ps.length : Nat)), (29, .int .i64 (s.i : Nat))]
def rlPa (g : GPa) (s : StPa) : List (Nat × Row) := [(0, gRo enF g.l), (1, gOwn enS g.ps), (2, gOwn enP s.acc)]
def wsPa (g : GPa) : List (Gate Unit) := [⟨.exit 0, fun _ => True, fun _ => [(9, .slice (some ⟨1, 0, none⟩) (g.ps.filterMap ofL).length 3)], fun _ => [(0, gRo enF g.l), (1, gOwn enP (g.ps.filterMap ofL))], 2⟩]
def specPa : Sy.Spec := specOf 1 3 45 (fun g : GPa => g.ps.length ≤ 16777100 ∧ ∀ x ∈ g.ps, x.length ≤ 16777000) (fun g => slPa g ⟨[], 0⟩) (fun g => rlPa g ⟨[], 0⟩) wsPa
def mPa := mOf [(44, pPa, specPa)]
theorem Pa_round (g : GPa) (s : StPa) (Inv : StPa → Prop) (m : StPa → Nat) : mev EPa noM 60 44 (0 :: pPa) false (codeOf Try.prog 44 (0 :: pPa)) ⟨mkOv (slPa g s), 45, []⟩ none ⟨mkR (rlPa g s), 3⟩ (roundK 1 3 45 Inv m (slPa g) (rlPa g) (wsPa g) s) =
  (br (decide ((↑s.2 : Int) < (↑(List.length g.2) : Int))) (br (decide ((0 : Int) <= (↑s.2 : Int) /\ (↑s.2 : Int) < (↑(List.length g.2) : Int))) ((Eq (α := Option Value)
  ((gC enS g.2)[0 + Int.toNat (↑s.2 : Int) * 1]?) (some (Value.string (cellS (gC enS g.2) (0 + Int.toNat (↑s.2 : Int) * 1))))) /\ ((((True /\ True) /\ (True /\ List.length
  (L (cellS (gC enS g.2) (0 + Int.toNat (↑s.2 : Int) * 1))) <= 16777000))) /\ (br (ofB (cellS (gC enS g.2) (0 + Int.toNat (↑s.2 : Int) * 1))) (br (decide (List.length s.1 +
  1 <= 16777216)) (br (decide (0 + List.length s.1 * 3 <= List.length (gC enP s.1))) (∃ j : StPa, ((Inv j) /\ ((m j < m s) /\ ((0 = 0) /\ ((List.length j.1 = List.length s.1
  + 1) /\ ((0 = 0) /\ ((List.length g.2 = List.length g.2) /\ (((↑(List.length g.2) : Int) = (↑(List.length g.2) : Int)) /\ (((↑j.2 : Int) = IntKind.wrap IntKind.i64 ((↑s.2
  : Int) + (1 : Int))) /\ ((Eq (α := List Value) (gC enF g.1) (gC enF g.1)) /\ ((Plain (gC enF g.1)) /\ ((Eq (α := List Value) (gC enS g.2) (gC enS g.2)) /\ ((Plain (gC enS
  g.2)) /\ ((Eq (α := List Value) (gC enP j.1) (List.take (List.length s.1 * 3) (List.drop 0 (gC enP s.1)) ++ [Value.string (ofN (cellS (gC enS g.2) (0 + Int.toNat (↑s.2 :
  Int) * 1))), Value.string (ofV (cellS (gC enS g.2) (0 + Int.toNat (↑s.2 : Int) * 1))), Value.bool (ofH (cellS (gC enS g.2) (0 + Int.toNat (↑s.2 : Int) * 1)))])) /\ ((Plain
  (gC enP j.1)) /\ True))))))))))))))) False) False) (∃ j : StPa, ((Inv j) /\ ((m j < m s) /\ ((0 = 0) /\ ((List.length j.1 = List.length s.1) /\ ((0 = 0) /\ ((List.length
  g.2 = List.length g.2) /\ (((↑(List.length g.2) : Int) = (↑(List.length g.2) : Int)) /\ (((↑j.2 : Int) = IntKind.wrap IntKind.i64 ((↑s.2 : Int) + (1 : Int))) /\ ((Eq (α :=
  List Value) (gC enF g.1) (gC enF g.1)) /\ ((Plain (gC enF g.1)) /\ ((Eq (α := List Value) (gC enS g.2) (gC enS g.2)) /\ ((Plain (gC enS g.2)) /\ ((Eq (α := List Value) (gC
  enP j.1) (gC enP s.1)) /\ ((Plain (gC enP j.1)) /\ True)))))))))))))))))) False) (∃ y : Unit, ((True) /\ ((0 = 0) /\ ((List.length (List.filterMap ofL g.2) = List.length
  s.1) /\ ((Eq (α := List Value) (gC enF g.1) (gC enF g.1)) /\ ((Plain (gC enF g.1)) /\ ((Eq (α := List Value) (gC enP (List.filterMap ofL g.2)) (gC enP s.1)) /\ ((Plain (gC
  enP (List.filterMap ofL g.2))) /\ True))))))))) := by kernel_rfl
theorem Pa_vc (l : List Fl) (nm : List UInt8) (p : List Pr) : mcall EPa mPa 60 44 [.slice (some ⟨0, 0, none⟩) l.length 2, .string (bs nm)] ⟨mkR (nums 0 [gRo enF l]), 1⟩ (retIs 1 (.slice (some ⟨1, 0, none⟩) p.length 3) [gRo enF l, gOwn enP p]) =
  (((((0 + List.length l * 2 <= List.length (gC enF l) /\ Plain (List.take (List.length l * 2) (List.drop 0 (gC enF l)))) /\ (True /\ True)) /\ (True /\ (IsF (Row.mk
  (List.take (List.length l * 2) (List.drop 0 (gC enF l))) true (Ob.cells true)) (List.length l) /\ (List.length l <= 9223372036854775807 /\ alB (Row.mk (List.take
  (List.length l * 2) (List.drop 0 (gC enF l))) true (Ob.cells true)) (bs nm) <= 16777216))))) /\ ((((True /\ True) /\ ((Plain (elC (alV (Row.mk (List.take (List.length l *
  2) (List.drop 0 (gC enF l))) true (Ob.cells true)) (bs nm))) /\ True) /\ List.length (L (alV (Row.mk (List.take (List.length l * 2) (List.drop 0 (gC enF l))) true
  (Ob.cells true)) (bs nm))) <= 16777000))) /\ (br (!okS (alV (Row.mk (List.take (List.length l * 2) (List.drop 0 (gC enF l))) true (Ob.cells true)) (bs nm))) ((List.length
  p = 0) /\ ((Eq (α := List Value) (gC enF l) (gC enF l)) /\ ((Plain (gC enF l)) /\ ((Eq (α := List Value) (gC enP p) ([])) /\ True)))) (∃ g : GPa, ((List.length g.2 <=
  16777100 /\ ∀ (x : List UInt8), x ∈ GPa.ps g → List.length x <= 16777000) /\ ((0 = 0) /\ ((0 = 0) /\ ((List.length g.2 = elN (alV (Row.mk (List.take (List.length l * 2)
  (List.drop 0 (gC enF l))) true (Ob.cells true)) (bs nm))) /\ (((↑(List.length g.2) : Int) = Int.ofNat (elN (alV (Row.mk (List.take (List.length l * 2) (List.drop 0 (gC enF
  l))) true (Ob.cells true)) (bs nm)))) /\ (((0 : Int) = (0 : Int)) /\ ((Eq (α := List Value) (gC enF g.1) (gC enF l)) /\ ((Plain (gC enF g.1)) /\ ((Eq (α := List Value) (gC
  enS g.2) (elC (alV (Row.mk (List.take (List.length l * 2) (List.drop 0 (gC enF l))) true (Ob.cells true)) (bs nm)))) /\ ((Plain (gC enS g.2)) /\ ((Eq (α := List Value)
  ([]) ([])) /\ (∀ (y : Unit), ((True) → ((0 = 0) /\ ((List.length p = List.length (List.filterMap ofL g.2)) /\ ((Eq (α := List Value) (gC enF l) (gC enF g.1)) /\ ((Plain
  (gC enF l)) /\ ((Eq (α := List Value) (gC enP p) (gC enP (List.filterMap ofL g.2))) /\ ((Plain (gC enP p)) /\ True))))))))))))))))))))))) := by kernel_rfl
theorem cPa_ok : ∀ f a rows p v news, cPa f a rows = some (p, v, news) → p → Con Try.prog f a rows v (rows ++ news) := by
  intro f a rows p v news h hp
  unfold cPa at h
  split at h <;> simp only [Option.some.injEq, Prod.mk.injEq, reduceCtorEq] at h <;> obtain ⟨rfl, rfl, rfl⟩ := h
  · obtain ⟨⟨l, rfl, rfl⟩, h1, h2⟩ := hp
    have e : decF (gRo enF l).cells = l := decF_gC l
    simp only [alV, alN, alB, e, List.append_nil] at h2 ⊢
    exact Al_con l (L _) h1 h2
  · exact Sp_con (L _) hp
  · exact Of_con (L _) hp
theorem Pa_piece : PieceOk EPa 1 (44, pPa, specPa) := by
  refine piece_loop mixed (calls_envC cPa_ok) (lok_envC _ _ _) lm_none (n := 60) (by kernel_rfl) (fun _ : GPa => (⟨[], 0⟩ : StPa)) (fun g s => s.i ≤ g.ps.length ∧ s.acc.length ≤ s.i ∧ s.acc ++ (g.ps.drop s.i).filterMap ofL = g.ps.filterMap ofL) (fun g s => g.ps.length - s.i) (sl := slPa) (rl := rlPa) (fun g hg => ⟨Nat.zero_le _, Nat.le_refl _, rfl⟩) (fun g s hg hi => ?_)
  refine (Pa_round g s _ _).mpr ?_
  obtain ⟨l, ps⟩ := g
  obtain ⟨acc, i⟩ := s
  obtain ⟨h1, h2, h3⟩ := hi
  obtain ⟨g1, g2⟩ := hg
  have hm : maxLen = 9223372036854775807 := by unfold maxLen; rfl
  simp only at h1 h2 h3 g1 g2
  simp only [ofNat_eq, toNat_cast, Nat.zero_add, Nat.add_zero, Nat.mul_one, List.drop_zero, bCells_len, bCells_drop, bCells_take, bCells_app, bCells_one, bCells_plain, List.length_replicate, List.length_append, List.length_take, List.length_drop, List.take_length, and_true, true_and, and_self, decide_true, List.length_nil, List.length_cons, Nat.sub_zero, dB_mk, dB_ro, List.take_zero, fPl, sPl, pPl, sLen, pLen]
  refine br_if (fun h => br_dec (by omega) ?_) (fun h => ?_)
  rotate_left
  · have hz : ps.drop i = [] := List.drop_eq_nil_of_le (by omega)
    rw [hz, List.filterMap_nil, List.append_nil] at h3
    subst h3
    exact ⟨(), rfl, rfl⟩
  have hi : i < ps.length := by omega
  obtain ⟨c1, c2⟩ := sGet ps i hi
  have hd := List.drop_eq_getElem_cons hi
  rw [hd, List.filterMap_cons] at h3
  have w := i64_succ (show i < 9223372036854775807 by omega)
  obtain ⟨o1, o2, o3, o4⟩ := of_bs ps[i]
  have hx := g2 _ (List.getElem_mem hi)
  simp only [c1, c2, true_and, w, o1, o2, o3, o4, bs_len, pOne1, pTake, gC_app]
  refine ⟨hx, br_intro (fun k => br_dec (by omega) (br_dec (Nat.le_refl _) ?_)) (fun k => ?_)⟩
  · obtain ⟨p, hp⟩ : ∃ p, ofL ps[i] = some p := Option.isSome_iff_exists.1 k
    rw [hp] at h3 ⊢
    refine ⟨⟨acc ++ [p], i + 1⟩, ⟨by simp only; omega, by simp; omega, ?_⟩, by simp only; omega, by simp, rfl, rfl⟩
    simpa using h3
  · have hp : ofL ps[i] = none := by simpa using k
    rw [hp] at h3
    exact ⟨⟨acc, i + 1⟩, ⟨by simp only; omega, by simp only; omega, h3⟩, by simp only; omega, rfl, rfl, rfl⟩
theorem Pa_con (l : List Fl) (nm : List UInt8) (hl : l.length ≤ maxLen) (h : (allL l nm).length ≤ 16777000) : Con Try.prog 44 [.slice (some ⟨0, 0, none⟩) l.length 2, .string (bs nm)] [gRo enF l] (.slice (some ⟨1, 0, none⟩) (pairsL l nm).length 3) [gRo enF l, gOwn enP (pairsL l nm)] := by
  refine con_vc (E := EPa) mixed (calls_envC cPa_ok) (lok_envC _ _ _) (M := mPa) (lm_one Pa_piece) (Pa_vc l nm _) ?_
  have e : ∀ b o, alV ⟨gC enF l, b, o⟩ (bs nm) = bs (allL l nm) := fun b o => by unfold alV; simp only; rw [decF_gC, L_bs]
  have eb : ∀ b o, alB ⟨gC enF l, b, o⟩ (bs nm) = (allL l nm).length := fun b o => by unfold alB; simp only; rw [decF_gC, L_bs]
  simp only [ofNat_eq, toNat_cast, Nat.zero_add, Nat.add_zero, Nat.mul_one, List.drop_zero, bCells_len, bCells_drop, bCells_take, bCells_app, bCells_one, bCells_plain, List.length_replicate, List.length_append, List.length_take, List.length_drop, List.take_length, and_true, true_and, and_self, decide_true, List.length_nil, List.length_cons, Nat.sub_zero, dB_mk, dB_ro, List.take_zero, bs_d, fPl, sPl, pPl, fTake, fLen, e, eb, elN_bs, elC_bs, okS_bs, bs_len]
  have hm : maxLen = 9223372036854775807 := by unfold maxLen; rfl
  have hl2 := split_len (allL l nm)
  refine ⟨⟨Nat.le_refl _, isF_mk _ _ rfl, by omega, by omega⟩, h, br_intro (fun k => ?_) (fun k => ?_)⟩
  · have : pairsL l nm = [] := by
      rw [pairs_el]
      unfold okSp at k
      unfold elSp
      cases hs : splitL (allL l nm) with
      | none => rfl
      | some r => rw [hs] at k; simp at k
    rw [this]; exact ⟨rfl, rfl⟩
  · rw [pairs_el]
    refine ⟨⟨l, elSp (allL l nm)⟩, ⟨?_, fun x hx => ?_⟩, rfl, rfl, rfl, rfl, fun _ _ => ⟨rfl, rfl, rfl⟩⟩
    · have := hl2.2; simp only; unfold elSp; omega
    · have := hl2.1 x hx; omega
end Go.Proofs.Ytideeogedleabaa.tk
