/- LedgerSums: of any talks the numbers come together to all; two rows' sums come together to that of both. -/
import Derived.Test.YtgfidcdkjnnlgaaSz9
import Derived.Test.YtgfidcdkjnnlgaaRows
import Derived.Test.YtgfidcdkjnnlgaaLldS
set_option linter.unusedSimpArgs false
set_option linter.unusedVariables false
namespace Go.Proofs.Ytgfidcdkjnnlgaa.tk
open Go Go.Ev Go.Sy Go.RowKit Go.Proofs.Ytgfidcdkjnnlgaa.gl
noncomputable def tLs : List EntM := [eLi, eSu, eLdRuns]
noncomputable abbrev EtLs : Env := envT Try.prog tLs
theorem Ls_vc (a b : List Tg) : mcall EtLs noM 60 5 [slT 0 a.length, slT 1 b.length] ⟨mkR (nums 0 [gRo enT a, gRo enT b]), 2⟩ (retIs 2 (.bool true) [gRo enT a, gRo enT b]) =
  (((((0 + List.length a * 9 <= List.length (gC enT a) /\ Plain (List.take (List.length a * 9) (List.drop 0 (gC enT a)))) /\ True) /\ ((True /\ True) /\ (True /\ IsT (Row.mk
  (List.take (List.length a * 9) (List.drop 0 (gC enT a))) true (Ob.cells true)) (List.length a))))) /\ (br (!zLi (Row.mk (List.take (List.length a * 9) (List.drop 0 (gC enT
  a))) true (Ob.cells true))) (((True /\ (True /\ (True /\ True)))) /\ ((true = true) /\ ((Eq (α := List Value) (gC enT a) (gC enT a)) /\ ((Plain (gC enT a)) /\ ((Eq (α :=
  List Value) (gC enT b) (gC enT b)) /\ ((Plain (gC enT b)) /\ True)))))) (((((0 + List.length b * 9 <= List.length (gC enT b) /\ Plain (List.take (List.length b * 9)
  (List.drop 0 (gC enT b)))) /\ True) /\ ((True /\ True) /\ (True /\ IsT (Row.mk (List.take (List.length b * 9) (List.drop 0 (gC enT b))) true (Ob.cells true)) (List.length
  b))))) /\ (br (!zLi (Row.mk (List.take (List.length b * 9) (List.drop 0 (gC enT b))) true (Ob.cells true))) (((True /\ (True /\ (True /\ True)))) /\ ((true = true) /\ ((Eq
  (α := List Value) (gC enT a) (gC enT a)) /\ ((Plain (gC enT a)) /\ ((Eq (α := List Value) (gC enT b) (gC enT b)) /\ ((Plain (gC enT b)) /\ True)))))) (((((0 + List.length
  a * 9 <= List.length (gC enT a) /\ Plain (List.take (List.length a * 9) (List.drop 0 (gC enT a)))) /\ True) /\ ((True /\ True) /\ (True /\ IsT (Row.mk (List.take
  (List.length a * 9) (List.drop 0 (gC enT a))) true (Ob.cells true)) (List.length a))))) /\ (((((0 + List.length b * 9 <= List.length (gC enT b) /\ Plain (List.take
  (List.length b * 9) (List.drop 0 (gC enT b)))) /\ True) /\ ((True /\ True) /\ (True /\ IsT (Row.mk (List.take (List.length b * 9) (List.drop 0 (gC enT b))) true (Ob.cells
  true)) (List.length b))))) /\ (br (decide (0 + List.length a * 9 <= List.length (gC enT a))) (br (allOne (List.take (List.length a * 9) (List.drop 0 (gC enT a)))) (br
  (decide (0 + List.length a <= 16777216)) (br (decide (0 + List.length b * 9 <= List.length (gC enT b))) (br (allOne (List.take (List.length b * 9) (List.drop 0 (gC enT
  b)))) (br (decide (0 + List.length a + List.length b <= 16777216)) (br (decide (0 < 0 + List.length a + List.length b ∨ List.length ([] ++ List.take (List.length a * 9)
  (List.drop 0 (gC enT a))) = 0)) (br (decide (0 + (0 + List.length a) * 9 <= List.length ([] ++ List.take (List.length a * 9) (List.drop 0 (gC enT a))))) (((((0 + (0 +
  List.length a + List.length b) * 9 <= List.length (List.take ((0 + List.length a) * 9) (List.drop 0 ([] ++ List.take (List.length a * 9) (List.drop 0 (gC enT a)))) ++
  List.take (List.length b * 9) (List.drop 0 (gC enT b))) /\ Plain (List.take ((0 + List.length a + List.length b) * 9) (List.drop 0 (List.take ((0 + List.length a) * 9)
  (List.drop 0 ([] ++ List.take (List.length a * 9) (List.drop 0 (gC enT a)))) ++ List.take (List.length b * 9) (List.drop 0 (gC enT b)))))) /\ True) /\ ((True /\ True) /\
  (True /\ IsT (Row.mk (List.take ((0 + List.length a + List.length b) * 9) (List.drop 0 (List.take ((0 + List.length a) * 9) (List.drop 0 ([] ++ List.take (List.length a *
  9) (List.drop 0 (gC enT a)))) ++ List.take (List.length b * 9) (List.drop 0 (gC enT b))))) true (Ob.cells true)) (0 + List.length a + List.length b))))) /\ (br (zWh 0
  (Row.mk (List.take ((0 + List.length a + List.length b) * 9) (List.drop 0 (List.take ((0 + List.length a) * 9) (List.drop 0 ([] ++ List.take (List.length a * 9) (List.drop
  0 (gC enT a)))) ++ List.take (List.length b * 9) (List.drop 0 (gC enT b))))) true (Ob.cells true)) == IntKind.wrap IntKind.i64 (zWh 0 (Row.mk (List.take (List.length a *
  9) (List.drop 0 (gC enT a))) true (Ob.cells true)) + zWh 0 (Row.mk (List.take (List.length b * 9) (List.drop 0 (gC enT b))) true (Ob.cells true))) && (zCn 1 (Row.mk
  (List.take ((0 + List.length a + List.length b) * 9) (List.drop 0 (List.take ((0 + List.length a) * 9) (List.drop 0 ([] ++ List.take (List.length a * 9) (List.drop 0 (gC
  enT a)))) ++ List.take (List.length b * 9) (List.drop 0 (gC enT b))))) true (Ob.cells true)) == IntKind.wrap IntKind.i64 (zCn 1 (Row.mk (List.take (List.length a * 9)
  (List.drop 0 (gC enT a))) true (Ob.cells true)) + zCn 1 (Row.mk (List.take (List.length b * 9) (List.drop 0 (gC enT b))) true (Ob.cells true))) && (zCn 2 (Row.mk
  (List.take ((0 + List.length a + List.length b) * 9) (List.drop 0 (List.take ((0 + List.length a) * 9) (List.drop 0 ([] ++ List.take (List.length a * 9) (List.drop 0 (gC
  enT a)))) ++ List.take (List.length b * 9) (List.drop 0 (gC enT b))))) true (Ob.cells true)) == IntKind.wrap IntKind.i64 (zCn 2 (Row.mk (List.take (List.length a * 9)
  (List.drop 0 (gC enT a))) true (Ob.cells true)) + zCn 2 (Row.mk (List.take (List.length b * 9) (List.drop 0 (gC enT b))) true (Ob.cells true))) && (zCn 3 (Row.mk
  (List.take ((0 + List.length a + List.length b) * 9) (List.drop 0 (List.take ((0 + List.length a) * 9) (List.drop 0 ([] ++ List.take (List.length a * 9) (List.drop 0 (gC
  enT a)))) ++ List.take (List.length b * 9) (List.drop 0 (gC enT b))))) true (Ob.cells true)) == IntKind.wrap IntKind.i64 (zCn 3 (Row.mk (List.take (List.length a * 9)
  (List.drop 0 (gC enT a))) true (Ob.cells true)) + zCn 3 (Row.mk (List.take (List.length b * 9) (List.drop 0 (gC enT b))) true (Ob.cells true))) && (zCn 4 (Row.mk
  (List.take ((0 + List.length a + List.length b) * 9) (List.drop 0 (List.take ((0 + List.length a) * 9) (List.drop 0 ([] ++ List.take (List.length a * 9) (List.drop 0 (gC
  enT a)))) ++ List.take (List.length b * 9) (List.drop 0 (gC enT b))))) true (Ob.cells true)) == IntKind.wrap IntKind.i64 (zCn 4 (Row.mk (List.take (List.length a * 9)
  (List.drop 0 (gC enT a))) true (Ob.cells true)) + zCn 4 (Row.mk (List.take (List.length b * 9) (List.drop 0 (gC enT b))) true (Ob.cells true))) && (zCn 5 (Row.mk
  (List.take ((0 + List.length a + List.length b) * 9) (List.drop 0 (List.take ((0 + List.length a) * 9) (List.drop 0 ([] ++ List.take (List.length a * 9) (List.drop 0 (gC
  enT a)))) ++ List.take (List.length b * 9) (List.drop 0 (gC enT b))))) true (Ob.cells true)) == IntKind.wrap IntKind.i64 (zCn 5 (Row.mk (List.take (List.length a * 9)
  (List.drop 0 (gC enT a))) true (Ob.cells true)) + zCn 5 (Row.mk (List.take (List.length b * 9) (List.drop 0 (gC enT b))) true (Ob.cells true))) && true)))))) (br (zWh 0
  (Row.mk (List.take (List.length a * 9) (List.drop 0 (gC enT a))) true (Ob.cells true)) == IntKind.wrap IntKind.i64 (IntKind.wrap IntKind.i64 (zCn 2 (Row.mk (List.take
  (List.length a * 9) (List.drop 0 (gC enT a))) true (Ob.cells true)) + zCn 3 (Row.mk (List.take (List.length a * 9) (List.drop 0 (gC enT a))) true (Ob.cells true))) + zCn 4
  (Row.mk (List.take (List.length a * 9) (List.drop 0 (gC enT a))) true (Ob.cells true)))) (br (IntKind.wrap IntKind.i64 (IntKind.wrap IntKind.i64 (zWh 0 (Row.mk (List.take
  (List.length a * 9) (List.drop 0 (gC enT a))) true (Ob.cells true)) + zCn 1 (Row.mk (List.take (List.length a * 9) (List.drop 0 (gC enT a))) true (Ob.cells true))) + zCn 5
  (Row.mk (List.take (List.length a * 9) (List.drop 0 (gC enT a))) true (Ob.cells true))) == Int.ofNat (List.length a)) (br (decide (zCn 2 (Row.mk (List.take (List.length a
  * 9) (List.drop 0 (gC enT a))) true (Ob.cells true)) ≥ (0 : Int))) (br (decide (zCn 3 (Row.mk (List.take (List.length a * 9) (List.drop 0 (gC enT a))) true (Ob.cells
  true)) ≥ (0 : Int))) (br (decide (zCn 4 (Row.mk (List.take (List.length a * 9) (List.drop 0 (gC enT a))) true (Ob.cells true)) ≥ (0 : Int))) (((True /\ (True /\ (True /\
  True)))) /\ ((true = true) /\ ((Eq (α := List Value) (gC enT a) (gC enT a)) /\ ((Plain (gC enT a)) /\ ((Eq (α := List Value) (gC enT b) (gC enT b)) /\ ((Plain (gC enT b))
  /\ True)))))) ((true = false) /\ ((Eq (α := List Value) (gC enT a) (gC enT a)) /\ ((Plain (gC enT a)) /\ ((Eq (α := List Value) (gC enT b) (gC enT b)) /\ ((Plain (gC enT
  b)) /\ True)))))) ((true = false) /\ ((Eq (α := List Value) (gC enT a) (gC enT a)) /\ ((Plain (gC enT a)) /\ ((Eq (α := List Value) (gC enT b) (gC enT b)) /\ ((Plain (gC
  enT b)) /\ True)))))) ((true = false) /\ ((Eq (α := List Value) (gC enT a) (gC enT a)) /\ ((Plain (gC enT a)) /\ ((Eq (α := List Value) (gC enT b) (gC enT b)) /\ ((Plain
  (gC enT b)) /\ True)))))) ((true = false) /\ ((Eq (α := List Value) (gC enT a) (gC enT a)) /\ ((Plain (gC enT a)) /\ ((Eq (α := List Value) (gC enT b) (gC enT b)) /\
  ((Plain (gC enT b)) /\ True)))))) ((true = false) /\ ((Eq (α := List Value) (gC enT a) (gC enT a)) /\ ((Plain (gC enT a)) /\ ((Eq (α := List Value) (gC enT b) (gC enT b))
  /\ ((Plain (gC enT b)) /\ True)))))) ((true = false) /\ ((Eq (α := List Value) (gC enT a) (gC enT a)) /\ ((Plain (gC enT a)) /\ ((Eq (α := List Value) (gC enT b) (gC enT
  b)) /\ ((Plain (gC enT b)) /\ True))))))) False) (((((0 + (0 + List.length a) * 9 <= List.length ([] ++ List.take (List.length a * 9) (List.drop 0 (gC enT a))) /\ Plain
  (List.take ((0 + List.length a) * 9) (List.drop 0 ([] ++ List.take (List.length a * 9) (List.drop 0 (gC enT a)))))) /\ True) /\ ((True /\ True) /\ (True /\ IsT (Row.mk
  (List.take ((0 + List.length a) * 9) (List.drop 0 ([] ++ List.take (List.length a * 9) (List.drop 0 (gC enT a))))) true (Ob.cells true)) (0 + List.length a))))) /\ (br
  (zWh 0 (Row.mk (List.take ((0 + List.length a) * 9) (List.drop 0 ([] ++ List.take (List.length a * 9) (List.drop 0 (gC enT a))))) true (Ob.cells true)) == IntKind.wrap
  IntKind.i64 (zWh 0 (Row.mk (List.take (List.length a * 9) (List.drop 0 (gC enT a))) true (Ob.cells true)) + zWh 0 (Row.mk (List.take (List.length b * 9) (List.drop 0 (gC
  enT b))) true (Ob.cells true))) && (zCn 1 (Row.mk (List.take ((0 + List.length a) * 9) (List.drop 0 ([] ++ List.take (List.length a * 9) (List.drop 0 (gC enT a))))) true
  (Ob.cells true)) == IntKind.wrap IntKind.i64 (zCn 1 (Row.mk (List.take (List.length a * 9) (List.drop 0 (gC enT a))) true (Ob.cells true)) + zCn 1 (Row.mk (List.take
  (List.length b * 9) (List.drop 0 (gC enT b))) true (Ob.cells true))) && (zCn 2 (Row.mk (List.take ((0 + List.length a) * 9) (List.drop 0 ([] ++ List.take (List.length a *
  9) (List.drop 0 (gC enT a))))) true (Ob.cells true)) == IntKind.wrap IntKind.i64 (zCn 2 (Row.mk (List.take (List.length a * 9) (List.drop 0 (gC enT a))) true (Ob.cells
  true)) + zCn 2 (Row.mk (List.take (List.length b * 9) (List.drop 0 (gC enT b))) true (Ob.cells true))) && (zCn 3 (Row.mk (List.take ((0 + List.length a) * 9) (List.drop 0
  ([] ++ List.take (List.length a * 9) (List.drop 0 (gC enT a))))) true (Ob.cells true)) == IntKind.wrap IntKind.i64 (zCn 3 (Row.mk (List.take (List.length a * 9) (List.drop
  0 (gC enT a))) true (Ob.cells true)) + zCn 3 (Row.mk (List.take (List.length b * 9) (List.drop 0 (gC enT b))) true (Ob.cells true))) && (zCn 4 (Row.mk (List.take ((0 +
  List.length a) * 9) (List.drop 0 ([] ++ List.take (List.length a * 9) (List.drop 0 (gC enT a))))) true (Ob.cells true)) == IntKind.wrap IntKind.i64 (zCn 4 (Row.mk
  (List.take (List.length a * 9) (List.drop 0 (gC enT a))) true (Ob.cells true)) + zCn 4 (Row.mk (List.take (List.length b * 9) (List.drop 0 (gC enT b))) true (Ob.cells
  true))) && (zCn 5 (Row.mk (List.take ((0 + List.length a) * 9) (List.drop 0 ([] ++ List.take (List.length a * 9) (List.drop 0 (gC enT a))))) true (Ob.cells true)) ==
  IntKind.wrap IntKind.i64 (zCn 5 (Row.mk (List.take (List.length a * 9) (List.drop 0 (gC enT a))) true (Ob.cells true)) + zCn 5 (Row.mk (List.take (List.length b * 9)
  (List.drop 0 (gC enT b))) true (Ob.cells true))) && true)))))) (br (zWh 0 (Row.mk (List.take (List.length a * 9) (List.drop 0 (gC enT a))) true (Ob.cells true)) ==
  IntKind.wrap IntKind.i64 (IntKind.wrap IntKind.i64 (zCn 2 (Row.mk (List.take (List.length a * 9) (List.drop 0 (gC enT a))) true (Ob.cells true)) + zCn 3 (Row.mk (List.take
  (List.length a * 9) (List.drop 0 (gC enT a))) true (Ob.cells true))) + zCn 4 (Row.mk (List.take (List.length a * 9) (List.drop 0 (gC enT a))) true (Ob.cells true)))) (br
  (IntKind.wrap IntKind.i64 (IntKind.wrap IntKind.i64 (zWh 0 (Row.mk (List.take (List.length a * 9) (List.drop 0 (gC enT a))) true (Ob.cells true)) + zCn 1 (Row.mk
  (List.take (List.length a * 9) (List.drop 0 (gC enT a))) true (Ob.cells true))) + zCn 5 (Row.mk (List.take (List.length a * 9) (List.drop 0 (gC enT a))) true (Ob.cells
  true))) == Int.ofNat (List.length a)) (br (decide (zCn 2 (Row.mk (List.take (List.length a * 9) (List.drop 0 (gC enT a))) true (Ob.cells true)) ≥ (0 : Int))) (br (decide
  (zCn 3 (Row.mk (List.take (List.length a * 9) (List.drop 0 (gC enT a))) true (Ob.cells true)) ≥ (0 : Int))) (br (decide (zCn 4 (Row.mk (List.take (List.length a * 9)
  (List.drop 0 (gC enT a))) true (Ob.cells true)) ≥ (0 : Int))) (((True /\ (True /\ (True /\ True)))) /\ ((true = true) /\ ((Eq (α := List Value) (gC enT a) (gC enT a)) /\
  ((Plain (gC enT a)) /\ ((Eq (α := List Value) (gC enT b) (gC enT b)) /\ ((Plain (gC enT b)) /\ True)))))) ((true = false) /\ ((Eq (α := List Value) (gC enT a) (gC enT a))
  /\ ((Plain (gC enT a)) /\ ((Eq (α := List Value) (gC enT b) (gC enT b)) /\ ((Plain (gC enT b)) /\ True)))))) ((true = false) /\ ((Eq (α := List Value) (gC enT a) (gC enT
  a)) /\ ((Plain (gC enT a)) /\ ((Eq (α := List Value) (gC enT b) (gC enT b)) /\ ((Plain (gC enT b)) /\ True)))))) ((true = false) /\ ((Eq (α := List Value) (gC enT a) (gC
  enT a)) /\ ((Plain (gC enT a)) /\ ((Eq (α := List Value) (gC enT b) (gC enT b)) /\ ((Plain (gC enT b)) /\ True)))))) ((true = false) /\ ((Eq (α := List Value) (gC enT a)
  (gC enT a)) /\ ((Plain (gC enT a)) /\ ((Eq (α := List Value) (gC enT b) (gC enT b)) /\ ((Plain (gC enT b)) /\ True)))))) ((true = false) /\ ((Eq (α := List Value) (gC enT
  a) (gC enT a)) /\ ((Plain (gC enT a)) /\ ((Eq (α := List Value) (gC enT b) (gC enT b)) /\ ((Plain (gC enT b)) /\ True)))))) ((true = false) /\ ((Eq (α := List Value) (gC
  enT a) (gC enT a)) /\ ((Plain (gC enT a)) /\ ((Eq (α := List Value) (gC enT b) (gC enT b)) /\ ((Plain (gC enT b)) /\ True)))))))) False) False) False) False) False)
  False))))))) := by kernel_rfl
theorem tLs_ok : ∀ x ∈ tLs, EntOk Try.prog x := all_cons eLi_ok (all_cons eSu_ok (all_cons eLdRuns_ok (all_nil)))
theorem enF_g (l : List Fl) : gAll (gC enF l) = true := by
  unfold gAll
  rw [List.all_eq_true]
  intro v hv
  obtain ⟨f, _, h⟩ := List.mem_flatMap.1 hv
  unfold enF at h
  simp only [List.mem_cons, List.mem_nil_iff, or_false] at h
  rcases h with rfl | rfl <;> rfl
theorem cn_all (l : List Tg) : cn 1 l + cn 2 l + cn 3 l + cn 4 l + cn 5 l = l.length := by
  induction l with
  | nil => rfl
  | cons x l ih =>
    have h : ∀ k, cn k (x :: l) = (if kdT x = k then 1 else 0) + cn k l := fun k => by
      rw [show x :: l = [x] ++ l from rfl, cn_app, cn_sing]
    rw [h, h, h, h, h, List.length_cons]
    have hk : kdT x = 1 ∨ kdT x = 2 ∨ kdT x = 3 ∨ kdT x = 4 ∨ kdT x = 5 := by
      unfold kdT
      split
      · exact .inl rfl
      · split
        · split
          · exact .inr (.inl rfl)
          · split
            · exact .inr (.inr (.inl rfl))
            · exact .inr (.inr (.inr (.inl rfl)))
        · exact .inr (.inr (.inr (.inr rfl)))
    rcases hk with hk | hk | hk | hk | hk <;> simp [hk] <;> omega
theorem Ls_law (a b : List Tg) (ha : a.length ≤ 1048576) (ta : ∀ x ∈ a, TOk x) (hb : b.length ≤ 1048576) (tb : ∀ x ∈ b, TOk x) : Con Try.prog 5 [slT 0 a.length, slT 1 b.length] [gRo enT a, gRo enT b] (.bool true) [gRo enT a, gRo enT b] := by
  refine con_vc (E := EtLs) mixed (calls_envT tLs_ok) (lok_envT _ _) (M := noM) lm_none (Ls_vc a b) ?_
  have tk1 : ∀ l : List Tg, List.take (l.length * 9) (gC enT l) = gC enT l := fun l => List.take_of_length_le (by rw [gC_len enT_k]; exact Nat.le_refl _)
  have tk0 : List.take (a.length * 9) ([] ++ gC enT a) = gC enT a := tk1 a
  have hlen : a.length + b.length = (a ++ b).length := List.length_append.symm
  have tab : ∀ x ∈ a ++ b, TOk x := fun x hx => by rcases List.mem_append.1 hx with h | h; exact ta x h; exact tb x h
  have pa := enT_pl a
  have pb := enT_pl b
  have i1 : IsT ⟨gC enT a, true, .cells true⟩ a.length := ⟨a, rfl, rfl, ha, ta⟩
  have i2 : IsT ⟨gC enT b, true, .cells true⟩ b.length := ⟨b, rfl, rfl, hb, tb⟩
  have wz : ∀ m n : Nat, m ≤ 1000 → n ≤ 1000 → IntKind.i64.wrap ((m : Int) + (n : Int)) = ((m + n : Nat) : Int) := fun m n h1 h2 => by rw [wr64_id (by unfold I64; omega)]; omega
  have oT : ∀ l : List Tg, allOne (gC enT l) = true := fun l => gC_one (fun _ => rfl) l
  have tk2 : List.take ((a.length + b.length) * 9) (gC enT (a ++ b)) = gC enT (a ++ b) := by rw [hlen]; exact tk1 _
  simp only [ofNat_eq, toNat_cast, Nat.zero_add, Nat.add_zero, Nat.mul_one, List.drop_zero, bCells_len, bCells_drop, bCells_take, bCells_app, bCells_one, bCells_plain, List.length_replicate, List.length_append, List.length_take, List.length_drop, List.take_length, and_true, true_and, and_self, decide_true, List.length_nil, List.length_cons, Nat.sub_zero, dB_mk, dB_ro, List.take_zero, tk0, tk1, gC_app, tk2, zLi_mk, zCn_mk, zWh_mk]
  refine ⟨⟨⟨by rw [gC_len enT_k]; exact Nat.le_refl _, pa⟩, i1⟩, br_intro (fun h => ⟨pa, pb⟩) (fun h => ⟨⟨⟨by rw [gC_len enT_k]; exact Nat.le_refl _, pb⟩, i2⟩, br_intro (fun h' => ⟨pa, pb⟩) (fun h' => ⟨⟨⟨by rw [gC_len enT_k]; exact Nat.le_refl _, pa⟩, i1⟩, ⟨⟨by rw [gC_len enT_k]; exact Nat.le_refl _, pb⟩, i2⟩, ?_⟩)⟩)⟩
  have la : a.length ≤ 40 := (of_decide_eq_true (show liL a = true by simpa using h)).2
  have lb : b.length ≤ 40 := (of_decide_eq_true (show liL b = true by simpa using h')).2
  have i3 : IsT ⟨gC enT (a ++ b), true, .cells true⟩ (a.length + b.length) := ⟨a ++ b, rfl, hlen, by omega, tab⟩
  have ca := cn_all a
  have cb := cn_all b
  simp (disch := omega) only [wz]
  refine br_dec (by rw [gC_len enT_k]; exact Nat.le_refl _) (br_b (oT _) (br_dec (by omega) (br_dec (by rw [gC_len enT_k]; exact Nat.le_refl _) (br_b (oT _) (br_dec (by omega) (br_dec (by rw [gC_len enT_k]; omega) (br_dec (by rw [gC_len enT_k]; exact Nat.le_refl _)
    ⟨⟨⟨by rw [gC_len enT_k]; omega, enT_pl _⟩, i3⟩, br_b ?_ (br_b ?_ (br_b ?_ (br_dec (by omega) (br_dec (by omega) (br_dec (by omega) ⟨pa, pb⟩)))))⟩)))))))
  · simp only [cn_app, Bool.and_eq_true, beq_iff_eq, and_true]
    omega
  · simp
  · simp only [beq_iff_eq]; omega
theorem gt_of {Q : Nat → Prop} {M : List (List Value)} (hL : ∀ c ∈ M, GCells Q [.p (.i .i64), .p (.i .i64), .p (.i .i64), .sl 25 35 [.s, .s], .p .s, .p .b, .p .b, .p (.i .i64), .p (.i .i64)] c) (hQ : ∀ n, Q n → n ≤ 1048576 := by intro n h; exact h) :
    ∃ a : List Tg, a.length = M.length ∧ M.flatten = gC enT a ∧ ∀ x ∈ a, TOk x := by
  induction M with
  | nil => exact ⟨[], rfl, rfl, fun x hx => by simp at hx⟩
  | cons c M ih =>
    obtain ⟨a, h1, h2, h3⟩ := ih (fun d hd => hL d (List.mem_cons_of_mem _ hd))
    have hc := hL c (List.mem_cons_self ..)
    match c, hc with
    | [v0, v1, v2, v3, v4, v5, v6, v7, v8], hc =>
      obtain ⟨f0, f1, f2, f3, f4, f5, f6, f7, f8, _⟩ := hc
      obtain ⟨p, rfl, w0⟩ := cq_i f0
      obtain ⟨l, rfl, w1⟩ := cq_i f1
      obtain ⟨s, rfl, w2⟩ := cq_i f2
      obtain ⟨n, cells, rfl, hel, hm, hq⟩ := f3
      obtain ⟨b, rfl, _, _⟩ := cq_s f4
      obtain ⟨e, rfl⟩ := cq_b f5
      obtain ⟨r, rfl⟩ := cq_b f6
      obtain ⟨k, rfl, w7⟩ := cq_i f7
      obtain ⟨t, rfl, w8⟩ := cq_i f8
      obtain ⟨fs, y1, y2, y3⟩ := hel.data (α := Fl) enF (fun f => Q f.n.length ∧ Q f.v.length) (fun c hc => by
        match c, hc with
        | [x, y], hc =>
          obtain ⟨c1, c2, _⟩ := hc
          obtain ⟨s, rfl, w1, b1⟩ := cq_s c1
          obtain ⟨t, rfl, w2, b2⟩ := cq_s c2
          exact ⟨⟨L s, L t⟩, rfl, b1, b2⟩)
      have y2 : cells = gC enF fs := y2
      have hz : gCells (gCode cells) = cells := gCells_code (by rw [y2]; exact enF_g fs)
      refine ⟨⟨p, l, s, gCode cells, 0, n, b, e, r, k, t⟩ :: a, by rw [List.length_cons, List.length_cons, h1], by rw [List.flatten_cons, h2, gC_cons]; rfl, ?_⟩
      intro x hx
      rcases List.mem_cons.1 hx with rfl | hx
      · refine ⟨fs, ?_, y1, hQ _ hq, fun f hf => ⟨hQ _ (y3 f hf).1, hQ _ (y3 f hf).2⟩, ?_⟩
        · unfold shT; simp only; rw [hz, y2, List.drop_zero]; exact List.take_of_length_le (by rw [gC_len enF_k, y1]; exact Nat.le_refl _)
        · simp only; rw [hz, y2, gC_len enF_k, y1]; omega
      · exact h3 x hx
end Go.Proofs.Ytgfidcdkjnnlgaa.tk
