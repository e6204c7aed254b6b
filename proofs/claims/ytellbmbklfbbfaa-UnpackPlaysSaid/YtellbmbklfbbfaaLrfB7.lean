/- The document's own table: fields by numbers, numbers of fields; what is known of its calls. -/
import Derived.Test.YtellbmbklfbbfaaSz9
import Derived.Test.YtellbmbklfbbfaaRows
import Derived.Test.YtellbmbklfbbfaaLrfA7
set_option maxRecDepth 20000
set_option linter.unusedSimpArgs false
set_option linter.unusedVariables false
namespace Go.Proofs.Ytellbmbklfbbfaa.tb
open Go Go.Ev Go.Sy Go.RowKit Go.Proofs.Ytellbmbklfbbfaa.gl Go.Proofs.Ytellbmbklfbbfaa.tk
noncomputable def tGr : List EntM := [eSt2]
noncomputable abbrev EtGr : Env := envT Try.prog tGr
noncomputable def eGetR : EntM := (38, fun a r => match a, r with
  | [.pointer (some ⟨0, 0, none⟩), .int .i64 i], [⟨[.slice (some ⟨1, 0, none⟩) n 2, .int .i64 m], false, .cells false⟩, r1] =>
    some (IsTg r1 n ∧ I64 i, .tuple #[.agg ⟨[.string (gfA r1 n i), .string (gfB r1 n i)]⟩, .bool (gfK r1 n i)], 2, [(0, ⟨[.slice (some ⟨1, 0, none⟩) n 2, .int .i64 m], false, .cells false⟩), (1, r1)])
  | _, _ => none)
noncomputable def eAddR : EntM := (40, fun a r => match a, r with
  | [.pointer (some ⟨0, 0, none⟩), .agg ⟨[.string x, .string y]⟩], [⟨[.slice (some ⟨1, 0, none⟩) n 2, .int .i64 m], false, .cells false⟩, r1] =>
    some (IsTb r1 n (szR r1 n) ∧ fbZ x y ≤ 100000000 ∧ 0 ≤ m ∧ m ≤ 100000000, .tuple #[], 3, [(0, ⟨[.slice (some ⟨2, 0, none⟩) (adN r1 n m x y) 2, .int .i64 m], false, .cells false⟩), (2, ⟨adC r1 n m x y, false, .cells true⟩)])
  | _, _ => none)
noncomputable def eResR : EntM := (26, fun a r => match a, r with
  | [.pointer (some ⟨0, 0, none⟩), .int .i64 k], [⟨[.slice (some ⟨1, 0, none⟩) n 2, .int .i64 m], false, .cells false⟩, r1] =>
    some (IsTb r1 n (szR r1 n), .int .i64 (rsZ k), 3, [(0, ⟨[.slice (some ⟨2, 0, none⟩) (rsN r1 n m k) 2, .int .i64 (rsM m k)], false, .cells false⟩), (2, ⟨rsC r1 n m k, false, .cells true⟩)])
  | _, _ => none)
theorem GtR_vc (l j : List Fl) (i m : Int) (a b : ByteArray) (k : Bool) : mcall EtGr noM 60 38 [.pointer (some ⟨0, 0, none⟩), .int .i64 i] ⟨mkR (nums 0 [rtC l.length m 1, gOwn enF (l ++ j)]), 2⟩ (retIsM 2 (.tuple #[.agg ⟨[.string a, .string b]⟩, .bool k]) 2 [(0, rtC l.length m 1), (1, gOwn enF (l ++ j))]) =
  ((((True /\ True) /\ (True /\ (True /\ I64 i)))) /\ (br (inR i) ((a = stA i) /\ ((b = stB i) /\ ((k = true) /\ ((0 = 0) /\ ((List.length l = List.length l) /\ ((m = m) /\
  ((Eq (α := List Value) (gC enF (l ++ j)) (gC enF (l ++ j))) /\ ((Plain (gC enF (l ++ j))) /\ True)))))))) (br (decide (IntKind.wrap IntKind.i64 (i - (62 : Int)) < (0 :
  Int))) ((a = ByteArray.mk #[]) /\ ((b = ByteArray.mk #[]) /\ ((k = false) /\ ((0 = 0) /\ ((List.length l = List.length l) /\ ((m = m) /\ ((Eq (α := List Value) (gC enF (l
  ++ j)) (gC enF (l ++ j))) /\ ((Plain (gC enF (l ++ j))) /\ True)))))))) (br (decide (IntKind.wrap IntKind.i64 (i - (62 : Int)) ≥ Int.ofNat (List.length l))) ((a =
  ByteArray.mk #[]) /\ ((b = ByteArray.mk #[]) /\ ((k = false) /\ ((0 = 0) /\ ((List.length l = List.length l) /\ ((m = m) /\ ((Eq (α := List Value) (gC enF (l ++ j)) (gC
  enF (l ++ j))) /\ ((Plain (gC enF (l ++ j))) /\ True)))))))) (br (decide ((0 : Int) <= IntKind.wrap IntKind.i64 (i - (62 : Int)) /\ IntKind.wrap IntKind.i64 (i - (62 :
  Int)) < (↑(List.length l) : Int))) ((Eq (α := Option Value) ((gC enF (l ++ j))[0 + Int.toNat (IntKind.wrap IntKind.i64 (i - (62 : Int))) * 2]?) (some (Value.string (cellS
  (gC enF (l ++ j)) (0 + Int.toNat (IntKind.wrap IntKind.i64 (i - (62 : Int))) * 2))))) /\ ((Eq (α := Option Value) ((gC enF (l ++ j))[0 + Int.toNat (IntKind.wrap
  IntKind.i64 (i - (62 : Int))) * 2 + 1]?) (some (Value.string (cellS (gC enF (l ++ j)) (0 + Int.toNat (IntKind.wrap IntKind.i64 (i - (62 : Int))) * 2 + 1))))) /\ ((a =
  cellS (gC enF (l ++ j)) (0 + Int.toNat (IntKind.wrap IntKind.i64 (i - (62 : Int))) * 2)) /\ ((b = cellS (gC enF (l ++ j)) (0 + Int.toNat (IntKind.wrap IntKind.i64 (i - (62
  : Int))) * 2 + 1)) /\ ((k = true) /\ ((0 = 0) /\ ((List.length l = List.length l) /\ ((m = m) /\ ((Eq (α := List Value) (gC enF (l ++ j)) (gC enF (l ++ j))) /\ ((Plain (gC
  enF (l ++ j))) /\ True)))))))))) False))))) := by kernel_rfl
theorem tGr_ok : ∀ x ∈ tGr, EntOk Try.prog x := all_cons eSt2_ok (all_nil)
theorem GtR_con (l j : List Fl) (i m : Int) (hl : l.length ≤ 16777216) (hi : I64 i) : ConM Try.prog 38 [.pointer (some ⟨0, 0, none⟩), .int .i64 i] [rtC l.length m 1, gOwn enF (l ++ j)] (.tuple #[.agg ⟨[.string (bs (getF l i).1.n), .string (bs (getF l i).1.v)]⟩, .bool (getF l i).2]) 2 [(0, rtC l.length m 1), (1, gOwn enF (l ++ j))] := by
  refine conM_vc (E := EtGr) mixed (calls_envT tGr_ok) (lok_envT _ _) (M := noM) lm_none (GtR_vc l j i m _ _ _) ?_
  simp only [ofNat_eq, toNat_cast, Nat.zero_add, Nat.add_zero, Nat.mul_one, List.drop_zero, bCells_len, bCells_drop, bCells_take, bCells_app, bCells_one, bCells_plain, List.length_replicate, List.length_append, List.length_take, List.length_drop, List.take_length, and_true, true_and, and_self, decide_true, List.length_nil, List.length_cons, Nat.sub_zero, dB_mk, dB_ro, List.take_zero, fPl]
  refine ⟨hi, br_intro (fun h => ?_) (fun h => ?_)⟩
  · have h' : 1 ≤ i ∧ i ≤ 61 := of_decide_eq_true h
    have e : getF l i = (⟨L (stA i), L (stB i)⟩, inR i) := if_pos h'.2
    rw [e]
    exact ⟨bsL _, bsL _, h⟩
  · have h' : ¬ (1 ≤ i ∧ i ≤ 61) := of_decide_eq_false h
    have nil1 : stA i = ⟨#[]⟩ := by unfold stA; rw [h]; rfl
    have nil2 : stB i = ⟨#[]⟩ := by unfold stB; rw [h]; rfl
    have low : i < 1 → getF l i = (⟨[], []⟩, false) := fun q => by
      unfold getF; rw [if_pos (by omega), nil1, nil2, h]; rfl
    by_cases q : i < 1
    · have w : IntKind.i64.wrap (i - 62) < 0 ∨ IntKind.i64.wrap (i - 62) > 16777216 := by
        by_cases q2 : -9223372036854775808 ≤ i - 62
        · left; rw [wr64_id (by unfold I64 at hi ⊢; omega)]; omega
        · right
          obtain ⟨x1, x2⟩ := hi
          have : IntKind.i64.wrap (i - 62) = i - 62 + 18446744073709551616 := by
            rw [wr64]; omega
          omega
      rw [low q]
      refine br_if (fun _ => ⟨rfl, rfl, rfl⟩) (fun r => br_if (fun _ => ⟨rfl, rfl, rfl⟩) (fun r2 => by omega))
    · have w : IntKind.i64.wrap (i - 62) = i - 62 := wr64_id (by unfold I64 at hi ⊢; omega)
      simp only [w]
      refine br_if (fun _ => by omega) (fun _ => br_if (fun r => ?_) (fun r => br_dec (by omega) ?_))
      · have e : getF l i = (⟨[], []⟩, false) := by unfold getF; rw [if_neg (by omega), if_neg (by omega)]
        rw [e]; exact ⟨rfl, rfl, rfl⟩
      · have hn : (i - 62).toNat < l.length := by omega
        have e : getF l i = (l.getD (i - 62).toNat ⟨[], []⟩, true) := by unfold getF; rw [if_neg (by omega), if_pos hn]
        have hn2 : (i - 62).toNat < (l ++ j).length := by rw [List.length_append]; omega
        obtain ⟨c1, c2, c3, c4⟩ := fGet (l ++ j) _ hn2
        have g : (l ++ j)[(i - 62).toNat] = l[(i - 62).toNat] := List.getElem_append_left hn
        have gd : l.getD (i - 62).toNat ⟨[], []⟩ = l[(i - 62).toNat] := by rw [List.getD_eq_getElem?_getD, List.getElem?_eq_getElem hn]; rfl
        rw [g] at c1 c2 c3 c4
        rw [e, gd]
        exact ⟨by rw [c1, c3], by rw [c2, c4], c3.symm, c4.symm, rfl⟩
theorem eGetR_ok : EntOk Try.prog eGetR := by
  intro a rows p v n' rl he hp
  simp only [eGetR] at he
  split at he
  · simp only [Option.some.injEq, Prod.mk.injEq] at he
    obtain ⟨rfl, rfl, rfl, rfl⟩ := he
    rename_i i n m r1
    obtain ⟨⟨l, j, rfl, rfl, h1⟩, h2⟩ := hp
    obtain ⟨e1, e2, e3⟩ := gf_mk l j false (.cells true) i
    unfold gOwn
    rw [e1, e2, e3]
    exact GtR_con l j i m h1 h2
  · simp at he
theorem eAddR_ok : EntOk Try.prog eAddR := by
  intro a rows p v n' rl he hp
  simp only [eAddR] at he
  split at he
  · simp only [Option.some.injEq, Prod.mk.injEq] at he
    obtain ⟨rfl, rfl, rfl, rfl⟩ := he
    rename_i x y n m r1
    obtain ⟨⟨l, j, rfl, rfl, _, h1, h2⟩, h3, h4, h5⟩ := hp
    rw [z_fbZ] at h3
    have := AdR_con ⟨l, j, m⟩ ⟨L x, L y⟩ h1 h2 h3 h4 h5
    simp only [addT_m] at this
    have e1 := Classical.choose_spec (nat_ex0 (addT (rowT (gOwn enF (l ++ j)) l.length m) ⟨L x, L y⟩).l.length)
    have e3 := Classical.choose_spec (lf_ex (gC enF ((addT (rowT (gOwn enF (l ++ j)) l.length m) ⟨L x, L y⟩).l ++ (addT (rowT (gOwn enF (l ++ j)) l.length m) ⟨L x, L y⟩).j)))
    unfold adN adC
    rw [e1, e3, row_T]
    exact this
  · simp at he
theorem eResR_ok : EntOk Try.prog eResR := by
  intro a rows p v n' rl he hp
  simp only [eResR] at he
  split at he
  · simp only [Option.some.injEq, Prod.mk.injEq] at he
    obtain ⟨rfl, rfl, rfl, rfl⟩ := he
    rename_i k n m r1
    obtain ⟨l, j, rfl, rfl, _, h1, h2⟩ := hp
    have := RsR_con ⟨l, j, m⟩ k (by simp only; omega) (by simp only; omega)
    simp only [rsT_m] at this
    have e1 := Classical.choose_spec (nat_ex0 (rsT (rowT (gOwn enF (l ++ j)) l.length m) k).l.length)
    have e3 := Classical.choose_spec (lf_ex (gC enF ((rsT (rowT (gOwn enF (l ++ j)) l.length m) k).l ++ (rsT (rowT (gOwn enF (l ++ j)) l.length m) k).j)))
    have e4 := Classical.choose_spec (in_ex (if k < 0 ∨ k > 65536 then m else k))
    have e5 := Classical.choose_spec (in_ex (rsE k))
    unfold rsN rsC rsM rsZ
    rw [e1, e3, e4, e5, row_T]
    exact this
  · simp at he
end Go.Proofs.Ytellbmbklfbbfaa.tb
