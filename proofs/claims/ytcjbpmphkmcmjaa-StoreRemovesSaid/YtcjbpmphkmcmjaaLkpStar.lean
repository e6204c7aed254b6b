/- The names that vary tells. -/
import Derived.Test.YtcjbpmphkmcmjaaSz9
import Derived.Test.YtcjbpmphkmcmjaaRows
import Derived.Test.YtcjbpmphkmcmjaaLkp
import Derived.Test.YtcjbpmphkmcmjaaLtkAll
import Derived.Test.YtcjbpmphkmcmjaaLtkSplit
import Derived.Test.YtcjbpmphkmcmjaaLtkToken
import Derived.Test.YtcjbpmphkmcmjaaLtkLower
set_option maxRecDepth 20000
set_option linter.unusedSimpArgs false
set_option linter.unusedVariables false
namespace Go.Proofs.Ytcjbpmphkmcmjaa.tk
open Go Go.Ev Go.Sy Go.RowKit Go.Proofs.Ytcjbpmphkmcmjaa.gl
def cKs : FuncId → List Value → List Row → Option (Prop × Value × List Row)
  | 54, [.slice (some ⟨0, 0, none⟩) n 2, .string s], [r0] => some (IsF r0 n ∧ n ≤ maxLen ∧ alB r0 s ≤ 16777216, .tuple #[.string (alV r0 s), .int .i64 (alN r0 s)], [])
  | 59, [.string s], [] => some ((L s).length ≤ 16777000, .tuple #[.slice (some ⟨0, 0, none⟩) (elN s) 1, .bool (okS s)], [⟨elC s, false, .cells true⟩])
  | 61, [.string s], [] => some ((L s).length ≤ maxLen, .string (lowS s), [])
  | 60, [.string s], [] => some ((L s).length ≤ maxLen, .bool (tokS s), [])
  | _, _, _ => none
noncomputable abbrev EKs : Env := envC Try.prog cKs (fun f => Nat.beq f 54 || Nat.beq f 59 || Nat.beq f 61 || Nat.beq f 60)
def pKs : List Nat := [0, 1, 0, 1, 1, 1, 1]
structure GKs where
  l : List Fl
  ps : List (List UInt8)
def rowKs (g : GKs) (i : Nat) : List (List UInt8) := (g.ps.take i).map lowerL ++ g.ps.drop i
def slKs (g : GKs) (i : Nat) : List (Nat × Value) := [(6, .slice (some ⟨1, 0, none⟩) g.ps.length 1), (22, .slice (some ⟨1, 0, none⟩) g.ps.length 1), (23, .int .i64 (g.ps.length : Nat)), (24, .int .i64 (i : Nat))]
def rlKs (g : GKs) (i : Nat) : List (Nat × Row) := [(0, gRo enF g.l), (1, gOwn enS (rowKs g i))]
def wsKs (g : GKs) : List (Gate Unit) := [⟨.exit 0, fun _ => g.ps.all nmOk = true, fun _ => [(6, .slice (some ⟨1, 0, none⟩) g.ps.length 1)], fun _ => [(0, gRo enF g.l), (1, gOwn enS (g.ps.map lowerL))], 2⟩, ⟨.ret, fun _ => g.ps.all nmOk = false, fun _ => [(2, .slice none 0 0), (3, .bool true)], fun _ => [(0, gRo enF g.l)], 1⟩]
def specKs : Sy.Spec := specOf 1 2 43 (fun g : GKs => g.ps.length ≤ 16777216 ∧ ∀ x ∈ g.ps, x.length ≤ 16777216) (fun g => slKs g 0) (fun g => rlKs g 0) wsKs
def mKs := mOf [(53, pKs, specKs)]
theorem Ks_round (g : GKs) (i : Nat) (Inv : Nat → Prop) (m : Nat → Nat) : mev EKs noM 60 53 (0 :: pKs) false (codeOf Try.prog 53 (0 :: pKs)) ⟨mkOv (slKs g i), 43, []⟩ none ⟨mkR (rlKs g i), 2⟩ (roundK 1 2 43 Inv m (slKs g) (rlKs g) (wsKs g) i) =
  let z1 := (cellS (gC enS (rowKs g i)) (0 + Int.toNat (↑i : Int) * 1)); let z2 := (Eq (α := List Value) (gC enF g.1) (gC enF g.1)); let z3 := ((List.all g.2 nmOk = false)
  /\ ((true = true) /\ (z2 /\ ((Plain (gC enF g.1)) /\ True)))); let z4 := (decide ((0 : Int) <= (↑i : Int) /\ (↑i : Int) < (↑(List.length g.2) : Int))); let z5 := (((True
  /\ True) /\ (True /\ List.length (L z1) <= 9223372036854775807))); (br (decide ((↑i : Int) < (↑(List.length g.2) : Int))) (br z4 ((Eq (α := Option Value) ((gC enS (rowKs g
  i))[0 + Int.toNat (↑i : Int) * 1]?) (some (Value.string z1))) /\ (br (strEq z1 (ByteArray.mk #[42])) (∃ y : Unit, z3) (z5 /\ (br (!tokS z1) (∃ y : Unit, z3) (z5 /\ (br z4
  (br (decide (0 + Int.toNat (↑i : Int) * 1 + 1 <= List.length (gC enS (rowKs g i)))) (∃ j : Nat, ((Inv j) /\ ((m j < m i) /\ ((0 = 0) /\ ((List.length g.2 = List.length
  g.2) /\ ((0 = 0) /\ ((List.length g.2 = List.length g.2) /\ (((↑(List.length g.2) : Int) = (↑(List.length g.2) : Int)) /\ (((↑j : Int) = IntKind.wrap IntKind.i64 ((↑i :
  Int) + (1 : Int))) /\ (z2 /\ ((Plain (gC enF g.1)) /\ ((Eq (α := List Value) (gC enS (rowKs g j)) (ovr (gC enS (rowKs g i)) (0 + Int.toNat (↑i : Int) * 1) [Value.string
  (lowS z1)])) /\ ((Plain (gC enS (rowKs g j))) /\ True))))))))))))) False) False)))))) False) (∃ y : Unit, ((List.all g.2 nmOk = true) /\ ((0 = 0) /\ ((List.length g.2 =
  List.length g.2) /\ (z2 /\ ((Plain (gC enF g.1)) /\ ((Eq (α := List Value) (gC enS (List.map lowerL g.2)) (gC enS (rowKs g i))) /\ ((Plain (gC enS (List.map lowerL g.2)))
  /\ True))))))))) := by kernel_rfl
theorem Ks_vc (l : List Fl) : mcall EKs mKs 60 53 [.slice (some ⟨0, 0, none⟩) l.length 2] ⟨mkR (nums 0 [gRo enF l]), 1⟩ (retIs 1 (.tuple #[.slice (some ⟨1, 0, none⟩) (stL l).length 1, .bool (starL l).isNone]) [gRo enF l, gOwn enS (stL l)]) =
  let z2 := (List.take (List.length l * 2) (List.drop 0 (gC enF l))); let z1 := (alV (Row.mk z2 true (Ob.cells true)) (ByteArray.mk #[118, 97, 114, 121])); let z3 := ((Plain
  (gC enF l)) /\ ((Eq (α := List Value) (gC enS (stL l)) ([])) /\ True)); (((((0 + List.length l * 2 <= List.length (gC enF l) /\ Plain z2) /\ (True /\ True)) /\ (True /\
  (IsF (Row.mk z2 true (Ob.cells true)) (List.length l) /\ (List.length l <= 9223372036854775807 /\ alB (Row.mk z2 true (Ob.cells true)) (ByteArray.mk #[118, 97, 114, 121])
  <= 16777216))))) /\ ((((True /\ True) /\ ((Plain (elC z1) /\ True) /\ List.length (L z1) <= 16777000))) /\ (br (!okS z1) ((List.length (stL l) = 0) /\ ((Option.isNone
  (starL l) = true) /\ ((Eq (α := List Value) (gC enF l) (gC enF l)) /\ z3))) (∃ g : GKs, let w1 := (Eq (α := List Value) (gC enF l) (gC enF g.1)); ((List.length g.2 <=
  16777216 /\ ∀ (x : List UInt8), x ∈ GKs.ps g → List.length x <= 16777216) /\ ((0 = 0) /\ ((List.length g.2 = elN z1) /\ ((0 = 0) /\ ((List.length g.2 = elN z1) /\
  (((↑(List.length g.2) : Int) = Int.ofNat (elN z1)) /\ (((0 : Int) = (0 : Int)) /\ ((Eq (α := List Value) (gC enF g.1) (gC enF l)) /\ ((Plain (gC enF g.1)) /\ ((Eq (α :=
  List Value) (gC enS (rowKs g 0)) (elC z1)) /\ ((Plain (gC enS (rowKs g 0))) /\ (∀ (side : Bool), (br (side) (∀ (y : Unit), ((List.all g.2 nmOk = true) → ((0 = 0) /\
  ((List.length (stL l) = List.length g.2) /\ ((Option.isNone (starL l) = false) /\ (w1 /\ ((Plain (gC enF l)) /\ ((Eq (α := List Value) (gC enS (stL l)) (gC enS (List.map
  lowerL g.2))) /\ ((Plain (gC enS (stL l))) /\ True))))))))) (∀ (y : Unit), ((List.all g.2 nmOk = false) → ((List.length (stL l) = 0) /\ ((Option.isNone (starL l) = true)
  /\ (w1 /\ z3)))))))))))))))))))))) := by kernel_rfl
theorem cKs_ok : ∀ f a rows p v news, cKs f a rows = some (p, v, news) → p → Con Try.prog f a rows v (rows ++ news) := by
  intro f a rows p v news h hp
  have e : ∀ l, decF (gRo enF l).cells = l := fun l => decF_gC l
  unfold cKs at h
  split at h <;> simp only [Option.some.injEq, Prod.mk.injEq, reduceCtorEq] at h <;> obtain ⟨rfl, rfl, rfl⟩ := h
  · obtain ⟨⟨l, rfl, rfl⟩, h1, h2⟩ := hp
    simp only [alV, alN, alB, e, List.append_nil] at h2 ⊢
    exact Al_con l (L _) h1 h2
  · exact Sp_con (L _) hp
  · exact Low_con (L _) hp
  · exact Tok_con (L _) hp
theorem Ks_piece : PieceOk EKs 1 (53, pKs, specKs) := by
  refine piece_loop mixed (calls_envC cKs_ok) (lok_envC _ _ _) lm_none (n := 60) (by kernel_rfl) (fun g : GKs => (0 : Nat)) (fun g i => i ≤ g.ps.length ∧ (g.ps.take i).all nmOk = true) (fun g i => g.ps.length - i) (sl := slKs) (rl := rlKs) (fun g hg => ⟨Nat.zero_le _, rfl⟩) (fun g i hg hi => ?_)
  refine (Ks_round g i _ _).mpr ?_
  obtain ⟨l, ps⟩ := g
  obtain ⟨g1, g2⟩ := hg
  obtain ⟨h1, h2⟩ := hi
  simp only at g1 g2 h1 h2
  have hrl : ∀ i, (rowKs ⟨l, ps⟩ i).length = ps.length := fun i => by unfold rowKs; simp; omega
  simp only [ofNat_eq, toNat_cast, Nat.zero_add, Nat.add_zero, Nat.mul_one, List.drop_zero, bCells_len, bCells_drop, bCells_take, bCells_app, bCells_one, bCells_plain, List.length_replicate, List.length_append, List.length_take, List.length_drop, List.take_length, and_true, true_and, and_self, decide_true, List.length_nil, List.length_cons, Nat.sub_zero, dB_mk, dB_ro, List.take_zero, fPl, sPl, sLen, hrl, mk_bs, bs_d]
  refine br_if (fun h => br_dec (by omega) ?_) (fun h => ⟨(), ?_⟩)
  · have hi : i < ps.length := by omega
    have hi2 : i < (rowKs ⟨l, ps⟩ i).length := by rw [hrl]; exact hi
    have hget : (rowKs ⟨l, ps⟩ i)[i] = ps[i] := by
      have h3 : (List.map lowerL (ps.take i)).length = i := by simp; omega
      have hq : (rowKs ⟨l, ps⟩ i)[i]? = some ps[i] := by
        unfold rowKs
        simp only
        rw [List.getElem?_append_right (by omega), h3, Nat.sub_self, List.getElem?_drop, Nat.add_zero, List.getElem?_eq_getElem hi]
      exact (List.getElem?_eq_some_iff.mp hq).2
    obtain ⟨c1, c2⟩ := sGet _ i hi2
    rw [hget] at c1 c2
    have hx := g2 _ (List.getElem_mem hi)
    have w := i64_succ (show i < 9223372036854775807 by omega)
    have hm : maxLen = 9223372036854775807 := by unfold maxLen; rfl
    have hset := gC_set enS_k (rowKs ⟨l, ps⟩ i) i (lowerL ps[i]) hi2
    rw [Nat.mul_one] at hset
    have hnext : (rowKs ⟨l, ps⟩ i).set i (lowerL ps[i]) = rowKs ⟨l, ps⟩ (i + 1) := by
      unfold rowKs
      simp only
      have h3 : (List.map lowerL (ps.take i)).length = i := by simp; omega
      rw [List.set_append_right _ _ (by omega), h3, List.drop_eq_getElem_cons hi, Nat.sub_self, List.set_cons_zero, List.take_succ_eq_append_getElem hi, List.map_append, List.append_assoc]; rfl
    rw [hnext] at hset
    have hall : nmOk ps[i] = false → ps.all nmOk = false := fun h => by rw [List.all_eq_false]; exact ⟨_, List.getElem_mem hi, by simp [h]⟩
    simp only [c1, c2, strEq_bs, tokS_bs, lowS_bs, bs_len, w, true_and, mk_bs, bs_d]
    refine br_intro (fun h4 => ⟨(), hall (by unfold nmOk; simp [of_decide_eq_true h4])⟩) (fun h4 => ⟨by omega, br_intro (fun h5 => ⟨(), hall (by unfold nmOk; simp at h5; simp [h5])⟩) (fun h5 => ⟨by omega, br_dec (by omega) (br_dec (by omega) ⟨i + 1, ⟨by omega, ?_⟩, by omega, rfl, hset.symm⟩)⟩)⟩)
    rw [List.take_succ_eq_append_getElem hi, List.all_append, h2]
    have h6 := of_decide_eq_false h4
    simp at h5
    simp [nmOk, h5, h6]
  · have : i = ps.length := by omega
    subst this
    rw [List.take_length] at h2
    refine ⟨h2, ?_⟩
    unfold rowKs; simp only [List.take_length, List.drop_length, List.append_nil]
theorem Ks_con (l : List Fl) (hl : l.length ≤ maxLen) (h : (allL l sVary).length ≤ 16777000) : Con Try.prog 53 [.slice (some ⟨0, 0, none⟩) l.length 2] [gRo enF l] (.tuple #[.slice (some ⟨1, 0, none⟩) (stL l).length 1, .bool (starL l).isNone]) [gRo enF l, gOwn enS (stL l)] := by
  refine con_vc (E := EKs) mixed (calls_envC cKs_ok) (lok_envC _ _ _) (M := mKs) (lm_one Ks_piece) (Ks_vc l) ?_
  have hm : maxLen = 9223372036854775807 := by unfold maxLen; rfl
  have e4 : (⟨#[118, 97, 114, 121]⟩ : ByteArray) = bs sVary := rfl
  have r1 : ∀ b o, alV ⟨gC enF l, b, o⟩ (bs sVary) = bs (allL l sVary) := fun b o => by unfold alV; simp only; rw [decF_gC, L_bs]
  have r2 : ∀ b o, alB ⟨gC enF l, b, o⟩ (bs sVary) = (allL l sVary).length := fun b o => by unfold alB; simp only; rw [decF_gC, L_bs]
  simp only [ofNat_eq, toNat_cast, Nat.zero_add, Nat.add_zero, Nat.mul_one, List.drop_zero, bCells_len, bCells_drop, bCells_take, bCells_app, bCells_one, bCells_plain, List.length_replicate, List.length_append, List.length_take, List.length_drop, List.take_length, and_true, true_and, and_self, decide_true, List.length_nil, List.length_cons, Nat.sub_zero, dB_mk, dB_ro, List.take_zero, fPl, fLen, fTake, sPl, sLen, e4, r1, r2, elN_bs, elC_bs, okS_bs, bs_len]
  obtain ⟨s1, s2⟩ := split_len (allL l sVary)
  refine ⟨⟨Nat.le_refl _, isF_mk _ _ rfl, by omega, by omega⟩, by omega, br_intro (fun h1 => ?_) (fun h1 => ?_)⟩
  · have e : starL l = none := by rw [star_el]; simp at h1; simp [h1]
    have e2 : stL l = [] := by unfold stL; rw [e]; rfl
    rw [e2, e]; exact ⟨rfl, rfl, rfl⟩
  · have e : starL l = starE (elSp (allL l sVary)) := by rw [star_el]; simp at h1; simp [h1]
    refine ⟨⟨l, elSp (allL l sVary)⟩, ⟨by simp only; unfold elSp; omega, fun x hx => by have := s1 x hx; omega⟩, rfl, rfl, rfl, rfl, rfl, fun side => br_intro (fun _ _ h2 => ?_) (fun _ _ h2 => ?_)⟩
    · have e3 : starL l = some ((elSp (allL l sVary)).map lowerL) := by rw [e]; unfold starE; simp only at h2; rw [h2]; rfl
      have e2 : stL l = (elSp (allL l sVary)).map lowerL := by unfold stL; rw [e3]; rfl
      rw [e2, e3]; exact ⟨by simp, rfl, rfl, rfl⟩
    · have e3 : starL l = none := by rw [e]; unfold starE; simp only at h2; rw [h2]; rfl
      have e2 : stL l = [] := by unfold stL; rw [e3]; rfl
      rw [e2, e3]; exact ⟨rfl, rfl, rfl, rfl⟩
end Go.Proofs.Ytcjbpmphkmcmjaa.tk
