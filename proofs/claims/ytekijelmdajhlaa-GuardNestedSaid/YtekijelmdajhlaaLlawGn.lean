/- GuardNested: however many Calls stand one in the other, a fault is caught by the innermost, once. -/
import Derived.Test.YtekijelmdajhlaaSz9
import Derived.Test.YtekijelmdajhlaaRows
import Derived.Test.YtekijelmdajhlaaLwit
set_option linter.unusedSimpArgs false
set_option linter.unusedVariables false
namespace Go.Proofs.Ytekijelmdajhlaa.gd
open Go Go.Ev Go.Sy Go.RowKit Go.Proofs.Ytekijelmdajhlaa.tk
noncomputable def eRunsG : EntM := entC 3 fun a r => match a, r with
  | [], [] => some (True, .bool true, [])
  | _, _ => none
noncomputable def eWk (K : Int) : EntM := entC 34 fun a r => match a, r with
  | [.int .i64 n, .int .i64 lo, .int .i64 hi], [] => some (inside n 1 60 = K ∧ lo = 1 ∧ hi = 60 ∧ I64 n, .int .i64 K, [])
  | _, _ => none
noncomputable def tGn (K : Int) : List EntM := [eWk K, eRunsG]
noncomputable abbrev EGn (K : Int) : Env := envT Try.prog (tGn K)
noncomputable def mlG (K : Int) (d c a : Int) : Prop := mcall (EGn K) noM 2000 7 [.int .i64 d, .int .i64 c, .int .i64 a] ⟨mkR (nums 0 []), 0⟩ (retIs 0 (.bool true) [])
def cnG (K : Int) (d c a : Int) : Prop := ((((True ∧ (True ∧ (True ∧ True))) ∧ (True ∧ (True ∧ (inside d 1 60 = K ∧ ((1 : Int) = 1 ∧ ((60 : Int) = 60 ∧ I64 d))))))) ∧ (br (!(c == c && (a == a && true))) ((true = false) ∧ True) (((True ∧ (True ∧ (True ∧ True)))) ∧ ((true = true) ∧ True))))
theorem G1_vc (d c a : Int) : mlG 1 d c a = cnG 1 d c a := by kernel_rfl
theorem G2_vc (d c a : Int) : mlG 2 d c a = cnG 2 d c a := by kernel_rfl
theorem G3_vc (d c a : Int) : mlG 3 d c a = cnG 3 d c a := by kernel_rfl
theorem G4_vc (d c a : Int) : mlG 4 d c a = cnG 4 d c a := by kernel_rfl
theorem G5_vc (d c a : Int) : mlG 5 d c a = cnG 5 d c a := by kernel_rfl
theorem G6_vc (d c a : Int) : mlG 6 d c a = cnG 6 d c a := by kernel_rfl
theorem G7_vc (d c a : Int) : mlG 7 d c a = cnG 7 d c a := by kernel_rfl
theorem G8_vc (d c a : Int) : mlG 8 d c a = cnG 8 d c a := by kernel_rfl
theorem G9_vc (d c a : Int) : mlG 9 d c a = cnG 9 d c a := by kernel_rfl
theorem G10_vc (d c a : Int) : mlG 10 d c a = cnG 10 d c a := by kernel_rfl
theorem G11_vc (d c a : Int) : mlG 11 d c a = cnG 11 d c a := by kernel_rfl
theorem G12_vc (d c a : Int) : mlG 12 d c a = cnG 12 d c a := by kernel_rfl
theorem G13_vc (d c a : Int) : mlG 13 d c a = cnG 13 d c a := by kernel_rfl
theorem G14_vc (d c a : Int) : mlG 14 d c a = cnG 14 d c a := by kernel_rfl
theorem G15_vc (d c a : Int) : mlG 15 d c a = cnG 15 d c a := by kernel_rfl
theorem G16_vc (d c a : Int) : mlG 16 d c a = cnG 16 d c a := by kernel_rfl
theorem G17_vc (d c a : Int) : mlG 17 d c a = cnG 17 d c a := by kernel_rfl
theorem G18_vc (d c a : Int) : mlG 18 d c a = cnG 18 d c a := by kernel_rfl
theorem G19_vc (d c a : Int) : mlG 19 d c a = cnG 19 d c a := by kernel_rfl
theorem G20_vc (d c a : Int) : mlG 20 d c a = cnG 20 d c a := by kernel_rfl
theorem G21_vc (d c a : Int) : mlG 21 d c a = cnG 21 d c a := by kernel_rfl
theorem G22_vc (d c a : Int) : mlG 22 d c a = cnG 22 d c a := by kernel_rfl
theorem G23_vc (d c a : Int) : mlG 23 d c a = cnG 23 d c a := by kernel_rfl
theorem G24_vc (d c a : Int) : mlG 24 d c a = cnG 24 d c a := by kernel_rfl
theorem G25_vc (d c a : Int) : mlG 25 d c a = cnG 25 d c a := by kernel_rfl
theorem G26_vc (d c a : Int) : mlG 26 d c a = cnG 26 d c a := by kernel_rfl
theorem G27_vc (d c a : Int) : mlG 27 d c a = cnG 27 d c a := by kernel_rfl
theorem G28_vc (d c a : Int) : mlG 28 d c a = cnG 28 d c a := by kernel_rfl
theorem G29_vc (d c a : Int) : mlG 29 d c a = cnG 29 d c a := by kernel_rfl
theorem G30_vc (d c a : Int) : mlG 30 d c a = cnG 30 d c a := by kernel_rfl
theorem G31_vc (d c a : Int) : mlG 31 d c a = cnG 31 d c a := by kernel_rfl
theorem G32_vc (d c a : Int) : mlG 32 d c a = cnG 32 d c a := by kernel_rfl
theorem G33_vc (d c a : Int) : mlG 33 d c a = cnG 33 d c a := by kernel_rfl
theorem G34_vc (d c a : Int) : mlG 34 d c a = cnG 34 d c a := by kernel_rfl
theorem G35_vc (d c a : Int) : mlG 35 d c a = cnG 35 d c a := by kernel_rfl
theorem G36_vc (d c a : Int) : mlG 36 d c a = cnG 36 d c a := by kernel_rfl
theorem G37_vc (d c a : Int) : mlG 37 d c a = cnG 37 d c a := by kernel_rfl
theorem G38_vc (d c a : Int) : mlG 38 d c a = cnG 38 d c a := by kernel_rfl
theorem G39_vc (d c a : Int) : mlG 39 d c a = cnG 39 d c a := by kernel_rfl
theorem G40_vc (d c a : Int) : mlG 40 d c a = cnG 40 d c a := by kernel_rfl
theorem G41_vc (d c a : Int) : mlG 41 d c a = cnG 41 d c a := by kernel_rfl
theorem G42_vc (d c a : Int) : mlG 42 d c a = cnG 42 d c a := by kernel_rfl
theorem G43_vc (d c a : Int) : mlG 43 d c a = cnG 43 d c a := by kernel_rfl
theorem G44_vc (d c a : Int) : mlG 44 d c a = cnG 44 d c a := by kernel_rfl
theorem G45_vc (d c a : Int) : mlG 45 d c a = cnG 45 d c a := by kernel_rfl
theorem G46_vc (d c a : Int) : mlG 46 d c a = cnG 46 d c a := by kernel_rfl
theorem G47_vc (d c a : Int) : mlG 47 d c a = cnG 47 d c a := by kernel_rfl
theorem G48_vc (d c a : Int) : mlG 48 d c a = cnG 48 d c a := by kernel_rfl
theorem G49_vc (d c a : Int) : mlG 49 d c a = cnG 49 d c a := by kernel_rfl
theorem G50_vc (d c a : Int) : mlG 50 d c a = cnG 50 d c a := by kernel_rfl
theorem G51_vc (d c a : Int) : mlG 51 d c a = cnG 51 d c a := by kernel_rfl
theorem G52_vc (d c a : Int) : mlG 52 d c a = cnG 52 d c a := by kernel_rfl
theorem G53_vc (d c a : Int) : mlG 53 d c a = cnG 53 d c a := by kernel_rfl
theorem G54_vc (d c a : Int) : mlG 54 d c a = cnG 54 d c a := by kernel_rfl
theorem G55_vc (d c a : Int) : mlG 55 d c a = cnG 55 d c a := by kernel_rfl
theorem G56_vc (d c a : Int) : mlG 56 d c a = cnG 56 d c a := by kernel_rfl
theorem G57_vc (d c a : Int) : mlG 57 d c a = cnG 57 d c a := by kernel_rfl
theorem G58_vc (d c a : Int) : mlG 58 d c a = cnG 58 d c a := by kernel_rfl
theorem G59_vc (d c a : Int) : mlG 59 d c a = cnG 59 d c a := by kernel_rfl
theorem G60_vc (d c a : Int) : mlG 60 d c a = cnG 60 d c a := by kernel_rfl
theorem eRunsG_ok : EntOk Try.prog eRunsG := entC_ok (by
  intro a rows p v news h hp
  split at h <;> simp only [Option.some.injEq, Prod.mk.injEq, reduceCtorEq] at h
  obtain ⟨rfl, rfl, rfl⟩ := h
  exact con_run mixed (n := 1000000) (by kernel_rfl) (by kernel_rfl))
theorem eWk_ok (K : Int) : EntOk Try.prog (eWk K) := entC_ok (by
  intro a rows p v news h hp
  split at h <;> simp only [Option.some.injEq, Prod.mk.injEq, reduceCtorEq] at h
  obtain ⟨rfl, rfl, rfl⟩ := h
  obtain ⟨h1, rfl, rfl, h2⟩ := hp
  rw [← h1]
  exact within_con _ _ _ h2 (by omega) (by omega) (by omega))
theorem tGn_ok (K : Int) : ∀ x ∈ tGn K, EntOk Try.prog x := all_cons (eWk_ok K) (all_cons eRunsG_ok all_nil)
theorem gn_all : ∀ n : Nat, 1 ≤ n → n ≤ 60 → ∀ d c a, mlG (n : Int) d c a = cnG (n : Int) d c a
  | 0, h, _ => absurd h (by omega)
  | 1, _, _ => G1_vc
  | 2, _, _ => G2_vc
  | 3, _, _ => G3_vc
  | 4, _, _ => G4_vc
  | 5, _, _ => G5_vc
  | 6, _, _ => G6_vc
  | 7, _, _ => G7_vc
  | 8, _, _ => G8_vc
  | 9, _, _ => G9_vc
  | 10, _, _ => G10_vc
  | 11, _, _ => G11_vc
  | 12, _, _ => G12_vc
  | 13, _, _ => G13_vc
  | 14, _, _ => G14_vc
  | 15, _, _ => G15_vc
  | 16, _, _ => G16_vc
  | 17, _, _ => G17_vc
  | 18, _, _ => G18_vc
  | 19, _, _ => G19_vc
  | 20, _, _ => G20_vc
  | 21, _, _ => G21_vc
  | 22, _, _ => G22_vc
  | 23, _, _ => G23_vc
  | 24, _, _ => G24_vc
  | 25, _, _ => G25_vc
  | 26, _, _ => G26_vc
  | 27, _, _ => G27_vc
  | 28, _, _ => G28_vc
  | 29, _, _ => G29_vc
  | 30, _, _ => G30_vc
  | 31, _, _ => G31_vc
  | 32, _, _ => G32_vc
  | 33, _, _ => G33_vc
  | 34, _, _ => G34_vc
  | 35, _, _ => G35_vc
  | 36, _, _ => G36_vc
  | 37, _, _ => G37_vc
  | 38, _, _ => G38_vc
  | 39, _, _ => G39_vc
  | 40, _, _ => G40_vc
  | 41, _, _ => G41_vc
  | 42, _, _ => G42_vc
  | 43, _, _ => G43_vc
  | 44, _, _ => G44_vc
  | 45, _, _ => G45_vc
  | 46, _, _ => G46_vc
  | 47, _, _ => G47_vc
  | 48, _, _ => G48_vc
  | 49, _, _ => G49_vc
  | 50, _, _ => G50_vc
  | 51, _, _ => G51_vc
  | 52, _, _ => G52_vc
  | 53, _, _ => G53_vc
  | 54, _, _ => G54_vc
  | 55, _, _ => G55_vc
  | 56, _, _ => G56_vc
  | 57, _, _ => G57_vc
  | 58, _, _ => G58_vc
  | 59, _, _ => G59_vc
  | 60, _, _ => G60_vc
  | n + 61, _, h => absurd h (by omega)
theorem gn_law (d c a : Int) (hd : I64 d) (_ : I64 c) (_ : I64 a) : Con Try.prog 7 [.int .i64 d, .int .i64 c, .int .i64 a] [] (.bool true) [] := by
  obtain ⟨h1, h2⟩ := inside_in d 1 60 (by omega)
  obtain ⟨n, hn⟩ : ∃ n : Nat, inside d 1 60 = (n : Int) := ⟨(inside d 1 60).toNat, by omega⟩
  refine con_vc (E := EGn n) mixed (calls_envT (tGn_ok n)) (lok_envT _ _) (M := noM) lm_none (gn_all n (by omega) (by omega) d c a) ?_
  simp [cnG, hn, hd, br]
end Go.Proofs.Ytekijelmdajhlaa.gd
