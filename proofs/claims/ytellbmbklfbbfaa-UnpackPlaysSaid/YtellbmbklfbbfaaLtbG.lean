/- The dynamic table: a field by its number. -/
import Derived.Test.YtellbmbklfbbfaaSz9
import Derived.Test.YtellbmbklfbbfaaRows
import Derived.Test.YtellbmbklfbbfaaLtbD
import Derived.Test.YtellbmbklfbbfaaLstc
set_option maxRecDepth 20000
set_option linter.unusedSimpArgs false
set_option linter.unusedVariables false
namespace Go.Proofs.Ytellbmbklfbbfaa.tb
open Go Go.Ev Go.Sy Go.RowKit Go.Proofs.Ytellbmbklfbbfaa.gl Go.Proofs.Ytellbmbklfbbfaa.tk
noncomputable def getF (l : List Fl) (i : Int) : Fl × Bool := if i ≤ 61 then (⟨L (stA i), L (stB i)⟩, inR i) else if (i - 62).toNat < l.length then (l.getD (i - 62).toNat ⟨[], []⟩, true) else (⟨[], []⟩, false)
theorem ria_ex (f : Row → Nat → Int → ByteArray) : ∃ g, g = f := ⟨f, rfl⟩
theorem rib_ex (f : Row → Nat → Int → Bool) : ∃ g, g = f := ⟨f, rfl⟩
noncomputable def gfA : Row → Nat → Int → ByteArray := Classical.choose (ria_ex fun r n i => bs (getF ((decF r.cells).take n) i).1.n)
noncomputable def gfB : Row → Nat → Int → ByteArray := Classical.choose (ria_ex fun r n i => bs (getF ((decF r.cells).take n) i).1.v)
noncomputable def gfK : Row → Nat → Int → Bool := Classical.choose (rib_ex fun r n i => (getF ((decF r.cells).take n) i).2)
def IsTg (r : Row) (n : Nat) : Prop := ∃ l j : List Fl, r = gOwn enF (l ++ j) ∧ n = l.length ∧ l.length ≤ 16777216
noncomputable def eGetT : EntM := (43, fun a r => match a, r with
  | [.pointer (some ⟨0, 0, none⟩), .int .i64 i], [⟨[.slice (some ⟨1, 0, none⟩) n 2, .int .i64 s, .int .i64 m], false, .cells false⟩, r1] =>
    some (IsTg r1 n ∧ I64 i, .tuple #[.agg ⟨[.string (gfA r1 n i), .string (gfB r1 n i)]⟩, .bool (gfK r1 n i)], 2, [(0, ⟨[.slice (some ⟨1, 0, none⟩) n 2, .int .i64 s, .int .i64 m], false, .cells false⟩), (1, r1)])
  | _, _ => none)
def tcC (n : Nat) (s m : Int) : Row := ⟨[.slice (some ⟨1, 0, none⟩) n 2, .int .i64 s, .int .i64 m], false, .cells false⟩
noncomputable def tGt : List EntM := [eSt1]
noncomputable abbrev EtGt : Env := envT Try.prog tGt
theorem Gt_vc (l j : List Fl) (i s m : Int) (a b : ByteArray) (k : Bool) : mcall EtGt noM 60 43 [.pointer (some ⟨0, 0, none⟩), .int .i64 i] ⟨mkR (nums 0 [tcC l.length s m, gOwn enF (l ++ j)]), 2⟩ (retIsM 2 (.tuple #[.agg ⟨[.string a, .string b]⟩, .bool k]) 2 [(0, tcC l.length s m), (1, gOwn enF (l ++ j))]) =
  (br (decide (i <= (61 : Int))) ((((True /\ True) /\ (True /\ (True /\ I64 i)))) /\ ((a = stA i) /\ ((b = stB i) /\ ((k = inR i) /\ ((0 = 0) /\ ((List.length l =
  List.length l) /\ ((s = s) /\ ((m = m) /\ ((Eq (α := List Value) (gC enF (l ++ j)) (gC enF (l ++ j))) /\ ((Plain (gC enF (l ++ j))) /\ True)))))))))) (br (decide
  (IntKind.wrap IntKind.i64 (i - (62 : Int)) < Int.ofNat (List.length l))) (br (decide ((0 : Int) <= IntKind.wrap IntKind.i64 (i - (62 : Int)) /\ IntKind.wrap IntKind.i64 (i
  - (62 : Int)) < (↑(List.length l) : Int))) ((Eq (α := Option Value) ((gC enF (l ++ j))[0 + Int.toNat (IntKind.wrap IntKind.i64 (i - (62 : Int))) * 2]?) (some (Value.string
  (cellS (gC enF (l ++ j)) (0 + Int.toNat (IntKind.wrap IntKind.i64 (i - (62 : Int))) * 2))))) /\ ((Eq (α := Option Value) ((gC enF (l ++ j))[0 + Int.toNat (IntKind.wrap
  IntKind.i64 (i - (62 : Int))) * 2 + 1]?) (some (Value.string (cellS (gC enF (l ++ j)) (0 + Int.toNat (IntKind.wrap IntKind.i64 (i - (62 : Int))) * 2 + 1))))) /\ ((a =
  cellS (gC enF (l ++ j)) (0 + Int.toNat (IntKind.wrap IntKind.i64 (i - (62 : Int))) * 2)) /\ ((b = cellS (gC enF (l ++ j)) (0 + Int.toNat (IntKind.wrap IntKind.i64 (i - (62
  : Int))) * 2 + 1)) /\ ((k = true) /\ ((0 = 0) /\ ((List.length l = List.length l) /\ ((s = s) /\ ((m = m) /\ ((Eq (α := List Value) (gC enF (l ++ j)) (gC enF (l ++ j))) /\
  ((Plain (gC enF (l ++ j))) /\ True))))))))))) False) ((a = ByteArray.mk #[]) /\ ((b = ByteArray.mk #[]) /\ ((k = false) /\ ((0 = 0) /\ ((List.length l = List.length l) /\
  ((s = s) /\ ((m = m) /\ ((Eq (α := List Value) (gC enF (l ++ j)) (gC enF (l ++ j))) /\ ((Plain (gC enF (l ++ j))) /\ True))))))))))) := by kernel_rfl
theorem z_gfA : gfA = fun r n i => bs (getF ((decF r.cells).take n) i).1.n := Classical.choose_spec (ria_ex _)
theorem z_gfB : gfB = fun r n i => bs (getF ((decF r.cells).take n) i).1.v := Classical.choose_spec (ria_ex _)
theorem z_gfK : gfK = fun r n i => (getF ((decF r.cells).take n) i).2 := Classical.choose_spec (rib_ex _)
theorem tGt_ok : ∀ x ∈ tGt, EntOk Try.prog x := all_cons eSt1_ok (all_nil)
theorem Gt_con (l j : List Fl) (i s m : Int) (hl : l.length ≤ 16777216) (hi : I64 i) : ConM Try.prog 43 [.pointer (some ⟨0, 0, none⟩), .int .i64 i] [tcC l.length s m, gOwn enF (l ++ j)] (.tuple #[.agg ⟨[.string (bs (getF l i).1.n), .string (bs (getF l i).1.v)]⟩, .bool (getF l i).2]) 2 [(0, tcC l.length s m), (1, gOwn enF (l ++ j))] := by
  refine conM_vc (E := EtGt) mixed (calls_envT tGt_ok) (lok_envT _ _) (M := noM) lm_none (Gt_vc l j i s m _ _ _) ?_
  simp only [ofNat_eq, toNat_cast, Nat.zero_add, Nat.add_zero, Nat.mul_one, List.drop_zero, bCells_len, bCells_drop, bCells_take, bCells_app, bCells_one, bCells_plain, List.length_replicate, List.length_append, List.length_take, List.length_drop, List.take_length, and_true, true_and, and_self, decide_true, List.length_nil, List.length_cons, Nat.sub_zero, dB_mk, dB_ro, List.take_zero]
  have w : IntKind.i64.wrap (i - 62) = if 61 < i then i - 62 else IntKind.i64.wrap (i - 62) := by
    split
    · exact wr64_id (by unfold I64 at hi ⊢; omega)
    · rfl
  refine br_if (fun h => ?_) (fun h => ?_)
  · have e : getF l i = (⟨L (stA i), L (stB i)⟩, inR i) := if_pos h
    rw [e]
    exact ⟨hi, bsL _, bsL _, rfl, fPl _⟩
  · have w : IntKind.i64.wrap (i - 62) = i - 62 := wr64_id (by unfold I64 at hi ⊢; omega)
    simp only [w]
    refine br_if (fun h1 => br_dec (by omega) ?_) (fun h1 => ?_)
    · have hn : (i - 62).toNat < l.length := by omega
      have e : getF l i = (l.getD (i - 62).toNat ⟨[], []⟩, true) := by unfold getF; rw [if_neg h, if_pos hn]
      have hn2 : (i - 62).toNat < (l ++ j).length := by rw [List.length_append]; omega
      obtain ⟨c1, c2, c3, c4⟩ := fGet (l ++ j) _ hn2
      have g : (l ++ j)[(i - 62).toNat] = l[(i - 62).toNat] := List.getElem_append_left hn
      have gd : l.getD (i - 62).toNat ⟨[], []⟩ = l[(i - 62).toNat] := by rw [List.getD_eq_getElem?_getD, List.getElem?_eq_getElem hn]; rfl
      rw [g] at c1 c2 c3 c4
      rw [e, gd]
      exact ⟨by rw [c1, c3], by rw [c2, c4], c3.symm, c4.symm, rfl, fPl _⟩
    · have e : getF l i = (⟨[], []⟩, false) := by unfold getF; rw [if_neg h, if_neg (by omega)]
      rw [e]
      exact ⟨rfl, rfl, rfl, fPl _⟩
theorem gf_mk (l j : List Fl) (b : Bool) (o : Ob) (i : Int) : gfA ⟨gC enF (l ++ j), b, o⟩ l.length i = bs (getF l i).1.n ∧ gfB ⟨gC enF (l ++ j), b, o⟩ l.length i = bs (getF l i).1.v ∧ gfK ⟨gC enF (l ++ j), b, o⟩ l.length i = (getF l i).2 := by
  rw [z_gfA, z_gfB, z_gfK]
  simp only [decF_gC, List.take_left, and_self]
theorem eGetT_ok : EntOk Try.prog eGetT := by
  intro a rows p v n' rl he hp
  simp only [eGetT] at he
  split at he
  · simp only [Option.some.injEq, Prod.mk.injEq] at he
    obtain ⟨rfl, rfl, rfl, rfl⟩ := he
    rename_i i n s m r1
    obtain ⟨⟨l, j, rfl, rfl, h1⟩, h2⟩ := hp
    obtain ⟨e1, e2, e3⟩ := gf_mk l j false (.cells true) i
    unfold gOwn
    rw [e1, e2, e3]
    exact Gt_con l j i s m h1 h2
  · simp at he
end Go.Proofs.Ytellbmbklfbbfaa.tb
