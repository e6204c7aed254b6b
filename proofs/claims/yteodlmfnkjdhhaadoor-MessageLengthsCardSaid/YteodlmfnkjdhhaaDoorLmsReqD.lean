/- A request, a response out of fields. -/
import Derived.Test.YteodlmfnkjdhhaaDoorSz9
import Derived.Test.YteodlmfnkjdhhaaDoorRows
import Derived.Test.YteodlmfnkjdhhaaDoorLmsScanD
set_option maxRecDepth 20000
set_option linter.unusedSimpArgs false
set_option linter.unusedVariables false
namespace Go.Proofs.YteodlmfnkjdhhaaDoor.tk
open Go Go.Ev Go.Sy Go.RowKit Go.Proofs.YteodlmfnkjdhhaaDoor.gl
noncomputable def tRs : List EntM := [eDig, eLen, ePl]
noncomputable abbrev EtRs : Env := envT Tryd.prog tRs
structure StR where
  r : RqP
  i : Nat
noncomputable def eRs : EntM := entC 6 fun a r => match a, r with
  | [.slice (some ⟨0, 0, none⟩) n 2], [r0] => some (IsF r0 n ∧ n ≤ 16777000 ∧ ShR r0, .tuple #[.agg ⟨[.int .i64 (rsS r0), .slice (some ⟨1, 0, none⟩) (rsN r0) 2, .int .i64 (rsK r0)]⟩, .bool (rsB r0)], [⟨rsC r0, false, .cells true⟩])
  | _, _ => none
theorem Rsp_vc (l o : List Fl) (st k : Int) (b : Bool) : mcall EtRs noM 60 6 [.slice (some ⟨0, 0, none⟩) l.length 2] ⟨mkR (nums 0 [gRo enF l]), 1⟩ (retIs 1 (.tuple #[.agg ⟨[.int .i64 st, .slice (some ⟨1, 0, none⟩) o.length 2, .int .i64 k]⟩, .bool b]) [gRo enF l, gOwn enF o]) =
  (br (Int.ofNat (List.length l) == (0 : Int)) ((st = (0 : Int)) /\ ((List.length o = 0) /\ ((k = (0 : Int)) /\ ((b = false) /\ ((Eq (α := List Value) (gC enF l) (gC enF l))
  /\ ((Plain (gC enF l)) /\ ((Eq (α := List Value) (gC enF o) ([])) /\ True))))))) (br (decide ((0 : Int) <= (0 : Int) /\ (0 : Int) < (↑(List.length l) : Int))) ((Eq (α :=
  Option Value) ((gC enF l)[0]?) (some (Value.string (cellS (gC enF l) 0)))) /\ (br (!strEq (cellS (gC enF l) 0) (ByteArray.mk #[58, 115, 116, 97, 116, 117, 115])) ((st = (0
  : Int)) /\ ((List.length o = 0) /\ ((k = (0 : Int)) /\ ((b = false) /\ ((Eq (α := List Value) (gC enF l) (gC enF l)) /\ ((Plain (gC enF l)) /\ ((Eq (α := List Value) (gC
  enF o) ([])) /\ True))))))) (br (decide ((0 : Int) <= (0 : Int) /\ (0 : Int) < (↑(List.length l) : Int))) ((Eq (α := Option Value) ((gC enF l)[1]?) (some (Value.string
  (cellS (gC enF l) 1)))) /\ ((((True /\ (True /\ (True /\ True))) /\ (True /\ (True /\ (List.length (L (cellS (gC enF l) 1)) <= 9223372036854775807 /\ ((0 : Int) <= (3 :
  Int) /\ ((0 : Int) <= (3 : Int) /\ (3 : Int) <= (9 : Int)))))))) /\ (br (!dgB (cellS (gC enF l) 1) (3 : Int) (3 : Int)) ((st = (0 : Int)) /\ ((List.length o = 0) /\ ((k =
  (0 : Int)) /\ ((b = false) /\ ((Eq (α := List Value) (gC enF l) (gC enF l)) /\ ((Plain (gC enF l)) /\ ((Eq (α := List Value) (gC enF o) ([])) /\ True))))))) (br (decide
  (dgI (cellS (gC enF l) 1) (3 : Int) (3 : Int) < (100 : Int))) ((st = (0 : Int)) /\ ((List.length o = 0) /\ ((k = (0 : Int)) /\ ((b = false) /\ ((Eq (α := List Value) (gC
  enF l) (gC enF l)) /\ ((Plain (gC enF l)) /\ ((Eq (α := List Value) (gC enF o) ([])) /\ True))))))) (br (decide (dgI (cellS (gC enF l) 1) (3 : Int) (3 : Int) > (599 :
  Int))) ((st = (0 : Int)) /\ ((List.length o = 0) /\ ((k = (0 : Int)) /\ ((b = false) /\ ((Eq (α := List Value) (gC enF l) (gC enF l)) /\ ((Plain (gC enF l)) /\ ((Eq (α :=
  List Value) (gC enF o) ([])) /\ True))))))) (br (dgI (cellS (gC enF l) 1) (3 : Int) (3 : Int) == (101 : Int)) ((st = (0 : Int)) /\ ((List.length o = 0) /\ ((k = (0 : Int))
  /\ ((b = false) /\ ((Eq (α := List Value) (gC enF l) (gC enF l)) /\ ((Plain (gC enF l)) /\ ((Eq (α := List Value) (gC enF o) ([])) /\ True))))))) (br (decide ((0 : Int) <=
  (1 : Int) /\ (1 : Int) <= (↑(List.length l) : Int) /\ (↑(List.length l) : Int) <= (↑(List.length l) : Int))) (((((2 + (Int.toNat (↑(List.length l) : Int) - 1) * 2 <=
  List.length (gC enF l) /\ Plain (List.take ((Int.toNat (↑(List.length l) : Int) - 1) * 2) (List.drop 2 (gC enF l)))) /\ True) /\ ((True /\ True) /\ (True /\ (IsF (Row.mk
  (List.take ((Int.toNat (↑(List.length l) : Int) - 1) * 2) (List.drop 2 (gC enF l))) true (Ob.cells true)) (Int.toNat (↑(List.length l) : Int) - 1) /\ (Int.toNat
  (↑(List.length l) : Int) - 1 <= 9223372036854775807 /\ ShR (Row.mk (List.take ((Int.toNat (↑(List.length l) : Int) - 1) * 2) (List.drop 2 (gC enF l))) true (Ob.cells
  true)))))))) /\ (br (decide ((0 : Int) <= (1 : Int) /\ (1 : Int) <= (↑(List.length l) : Int) /\ (↑(List.length l) : Int) <= (↑(List.length l) : Int))) (((((2 + (Int.toNat
  (↑(List.length l) : Int) - 1) * 2 <= List.length (gC enF l) /\ Plain (List.take ((Int.toNat (↑(List.length l) : Int) - 1) * 2) (List.drop 2 (gC enF l)))) /\ True) /\
  ((True /\ True) /\ (True /\ (IsF (Row.mk (List.take ((Int.toNat (↑(List.length l) : Int) - 1) * 2) (List.drop 2 (gC enF l))) true (Ob.cells true)) (Int.toNat
  (↑(List.length l) : Int) - 1) /\ (Int.toNat (↑(List.length l) : Int) - 1 <= 9223372036854775807 /\ ShR (Row.mk (List.take ((Int.toNat (↑(List.length l) : Int) - 1) * 2)
  (List.drop 2 (gC enF l))) true (Ob.cells true)))))))) /\ (br (!plR (Row.mk (List.take ((Int.toNat (↑(List.length l) : Int) - 1) * 2) (List.drop 2 (gC enF l))) true
  (Ob.cells true))) ((st = (0 : Int)) /\ ((List.length o = 0) /\ ((k = (0 : Int)) /\ ((b = false) /\ ((Eq (α := List Value) (gC enF l) (gC enF l)) /\ ((Plain (gC enF l)) /\
  ((Eq (α := List Value) (gC enF o) ([])) /\ True))))))) (br (lenR (Row.mk (List.take ((Int.toNat (↑(List.length l) : Int) - 1) * 2) (List.drop 2 (gC enF l))) true (Ob.cells
  true)) == (-2 : Int)) ((st = (0 : Int)) /\ ((List.length o = 0) /\ ((k = (0 : Int)) /\ ((b = false) /\ ((Eq (α := List Value) (gC enF l) (gC enF l)) /\ ((Plain (gC enF l))
  /\ ((Eq (α := List Value) (gC enF o) ([])) /\ True))))))) (br (decide ((0 : Int) <= (1 : Int) /\ (1 : Int) <= (↑(List.length l) : Int) /\ (↑(List.length l) : Int) <=
  (↑(List.length l) : Int))) (br (decide (2 + (Int.toNat (↑(List.length l) : Int) - 1) * 2 <= List.length (gC enF l))) (br (allOne (List.take ((Int.toNat (↑(List.length l) :
  Int) - 1) * 2) (List.drop 2 (gC enF l)))) (br (decide (Int.toNat (↑(List.length l) : Int) - 1 <= 16777216)) ((st = dgI (cellS (gC enF l) 1) (3 : Int) (3 : Int)) /\ ((0 =
  0) /\ ((List.length o = Int.toNat (↑(List.length l) : Int) - 1) /\ ((k = lenR (Row.mk (List.take ((Int.toNat (↑(List.length l) : Int) - 1) * 2) (List.drop 2 (gC enF l)))
  true (Ob.cells true))) /\ ((b = true) /\ ((Eq (α := List Value) (gC enF l) (gC enF l)) /\ ((Plain (gC enF l)) /\ ((Eq (α := List Value) (gC enF o) (List.take ((Int.toNat
  (↑(List.length l) : Int) - 1) * 2) (List.drop 2 (gC enF l)))) /\ ((Plain (gC enF o)) /\ True))))))))) False) False) False) False)))) False)) False))))))) False))) False)) := by kernel_rfl
theorem tRs_ok : ∀ x ∈ tRs, EntOk Tryd.prog x := all_cons eDig_ok (all_cons eLen_ok (all_cons ePl_ok (all_nil)))
theorem Rsp_con (l : List Fl) (h1 : l.length ≤ 16777000) (h2 : ShortF l) : Con Tryd.prog 6 [.slice (some ⟨0, 0, none⟩) l.length 2] [gRo enF l] (.tuple #[.agg ⟨[.int .i64 (rsZ (rsL l)).st, .slice (some ⟨1, 0, none⟩) (rsZ (rsL l)).f.length 2, .int .i64 (rsZ (rsL l)).k]⟩, .bool (rsL l).isSome]) [gRo enF l, gOwn enF (rsZ (rsL l)).f] := by
  refine con_vc (E := EtRs) mixed (calls_envT tRs_ok) (lok_envT _ _) (M := noM) lm_none (Rsp_vc l _ _ _ _) ?_
  have hm : maxLen = 9223372036854775807 := by unfold maxLen; rfl
  have q0 : (⟨#[]⟩ : ByteArray) = bs [] := rfl
  simp only [ofNat_eq, toNat_cast, Nat.zero_add, Nat.add_zero, Nat.mul_one, List.drop_zero, bCells_len, bCells_drop, bCells_take, bCells_app, bCells_one, bCells_plain, List.length_replicate, List.length_append, List.length_take, List.length_drop, List.take_length, and_true, true_and, and_self, decide_true, List.length_nil, List.length_cons, Nat.sub_zero, dB_mk, dB_ro, List.take_zero, fPl, bs_dd, isF_eq, q0, fTake]
  cases l with
  | nil => exact br_b rfl ⟨rfl, rfl, rfl, rfl, rfl⟩
  | cons f l =>
  have q1 : (⟨#[58, 115, 116, 97, 116, 117, 115]⟩ : ByteArray) = bs sSta := rfl
  obtain ⟨c1, c2, c3, c4⟩ := fGet (f :: l) 0 (by simp)
  simp only [Nat.zero_mul, Nat.zero_add, List.getElem_cons_zero] at c1 c2 c3 c4
  have d1 : dgI (bs f.v) 3 3 = dgV (digL f.v 3 3) := rfl
  have d2 : dgB (bs f.v) 3 3 = (digL f.v 3 3).isSome := rfl
  have hf := h2 f (by simp)
  have hs : ShortF l := fun x hx => h2 x (by simp [hx])
  have hdl : List.drop 2 (gC enF (f :: l)) = gC enF l := rfl
  have htl : List.take (((f :: l).length - 1) * 2) (gC enF l) = gC enF l := List.take_of_length_le (by rw [fLen]; simp)
  have il : IsF ⟨gC enF l, true, .cells true⟩ ((f :: l).length - 1) = True := eq_true (isF_mk _ _ (by simp))
  have hlen : (f :: l).length = l.length + 1 := List.length_cons
  simp only [c1, c2, c3, c4, q1, strEq_bs, L_bse, d1, d2, hdl, htl, il, n_sh, n_pl, n_len, fPl, fLen, true_and, and_true]
  have z : rsL (f :: l) = none → ((rsZ (rsL (f :: l))).st = 0 ∧ (rsZ (rsL (f :: l))).f.length = 0 ∧ (rsZ (rsL (f :: l))).k = 0 ∧ (rsL (f :: l)).isSome = false ∧ gC enF (rsZ (rsL (f :: l))).f = []) := fun h => by rw [h]; exact ⟨rfl, rfl, rfl, rfl, rfl⟩
  have hr : rsL (f :: l) = if f.n = sSta then (match digL f.v 3 3 with
    | none => none
    | some s => if stOk s && (plL l && !decide (lenL l = -2)) then some ⟨s, lenL l, l⟩ else none) else none := rfl
  have so : ∀ s, stOk s = (decide (100 ≤ s) && (decide (s ≤ 599) && !decide (s = 101))) := fun s => rfl
  refine br_nb (by rw [beq_eq_false_iff_ne]; omega) (br_dec (by omega) (br_intro (fun k => z ?_) (fun k1 => br_dec (by omega) ⟨⟨by omega, by omega, by omega, by omega⟩, br_intro (fun k => z ?_) (fun k2 => ?_)⟩)))
  · rw [hr, if_neg (by simpa using k)]
  · have k : digL f.v 3 3 = none := by simpa using k
    rw [hr, k]; simp
  rw [if_pos (by simpa using k1)] at hr
  obtain ⟨m, hm2⟩ : ∃ m, digL f.v 3 3 = some m := by
    cases hd : digL f.v 3 3 with
    | none => rw [hd] at k2; simp at k2
    | some m => exact ⟨m, rfl⟩
  rw [hm2] at hr ⊢
  simp only at hr
  have e : dgV (some m) = (m : Nat) := rfl
  rw [e]
  have bnd : (0 : Int) ≤ 1 ∧ (1 : Int) ≤ ((f :: l).length : Int) ∧ (((f :: l).length : Nat) : Int) ≤ ((f :: l).length : Int) := ⟨by omega, by omega, by omega⟩
  refine br_if (fun k => z ?_) (fun k3 => br_if (fun k => z ?_) (fun k4 => br_intro (fun k => z ?_) (fun k5 => br_dec bnd ⟨⟨by omega, by omega, hs⟩, br_dec bnd ⟨⟨by omega, by omega, hs⟩, br_intro (fun k => z ?_) (fun k6 => br_intro (fun k => z ?_) (fun k7 => br_dec bnd (br_dec (by omega) (br_b (oneN _) (br_dec (by omega) ?_)))))⟩⟩)))
  · rw [hr, so, decide_eq_false (by omega)]; rfl
  · rw [hr, so, show decide (m ≤ 599) = false from decide_eq_false (by omega)]; simp
  · have k : (m : Int) = 101 := by simpa using k
    rw [hr, so, show decide (m = 101) = true from decide_eq_true (by omega)]; simp
  · rw [hr]; simp at k; simp [k]
  · rw [hr]; simp at k; simp [k]
  · have k5 : ¬ (m : Int) = 101 := by simpa using k5
    have hok : stOk m = true := by rw [so, decide_eq_true (by omega), decide_eq_true (by omega), decide_eq_false (by omega)]; rfl
    have e2 : rsL (f :: l) = some ⟨m, lenL l, l⟩ := by rw [hr, hok]; simp at k6 k7; simp [k6, k7]
    rw [e2]
    exact ⟨rfl, by simp [rsZ], rfl, rfl, rfl⟩
theorem eRs_ok : EntOk Tryd.prog eRs := entC_ok (by
  intro a rows p v news h hp
  split at h <;> simp only [Option.some.injEq, Prod.mk.injEq, reduceCtorEq] at h
  obtain ⟨rfl, rfl, rfl⟩ := h
  obtain ⟨⟨l, rfl, rfl⟩, h1, h2⟩ := hp
  simp only [rsS, rsN, rsK, rsB, rsC, ShR, dF] at h2 ⊢
  exact Rsp_con l h1 h2)
end Go.Proofs.YteodlmfnkjdhhaaDoor.tk
