/- What a setting's value comes to, and what it sets. -/
import Derived.Test.YtocehonfnpjcjaaSz9
import Derived.Test.YtocehonfnpjcjaaRows
import Derived.Test.YtocehonfnpjcjaaLs11app
import Derived.Test.YtocehonfnpjcjaaLs11book
set_option linter.unusedSimpArgs false
set_option linter.unusedVariables false
namespace Go.Proofs.Ytocehonfnpjcjaa.s11
open Go Go.Ev Go.Sy Go.RowKit
def valI (i v : Int) : Int := if i = 2 then (if v = 0 ∨ v = 1 then 0 else 1) else if i = 4 then (if v < 0 ∨ v > 2147483647 then 3 else 0) else if i = 5 then (if v < 16384 ∨ v > 16777215 then 1 else 0) else 0
def clI (v : Int) : Int := max 0 (min v 2147483647)
def putE (x : St) (i v : Int) : St := ⟨if i = 1 then clI v else x.a, if i = 3 then clI v else x.b, if i = 4 then clI v else x.c, if i = 5 then clI v else x.d, if i = 6 then clI v else x.e⟩
theorem rvalue_vc (s : Se) (z : Int) : mcall E0 noM 60 16 [seV s] ⟨mkR (nums 0 []), 0⟩ (retIs 0 (.int .i64 z) []) =
  (br (s.1 == (2 : Int))
   (br (decide (s.2 < (0 : Int)))
    ((z = (1 : Int)) ∧
    True)
    (br (decide (s.2 > (1 : Int)))
     ((z = (1 : Int)) ∧
     True)
     ((z = (0 : Int)) ∧
     True)))
   (br (s.1 == (4 : Int))
    (br (decide (s.2 < (0 : Int)))
     ((z = (3 : Int)) ∧
     True)
     (br (decide (s.2 > (2147483647 : Int)))
      ((z = (3 : Int)) ∧
      True)
      ((z = (0 : Int)) ∧
      True)))
    (br (s.1 == (5 : Int))
     (br (decide (s.2 < (16384 : Int)))
      ((z = (1 : Int)) ∧
      True)
      (br (decide (s.2 > (16777215 : Int)))
       ((z = (1 : Int)) ∧
       True)
       ((z = (0 : Int)) ∧
       True)))
     ((z = (0 : Int)) ∧
     True)))) := by kernel_rfl
theorem br_iff {b : Bool} {p q : Prop} : br b p q ↔ (b = true → p) ∧ (b = false → q) := by cases b <;> simp [br]
theorem vl_eq (s : Se) : vl s = valI s.i s.v := by
  have h : valueC s (vl s) := Classical.choose_spec (value_ex s)
  unfold valueC at h
  rw [value_vc] at h
  simp only [br_iff] at h
  unfold valI
  grind
theorem put_eq (x : St) (s : Se) : put x s = putE x s.i s.v := by
  have h : setC x s (put x s) := Classical.choose_spec (set_ex x s)
  unfold setC at h
  rw [set_vc] at h
  simp only [br_iff] at h
  revert h
  generalize put x s = z
  intro h
  obtain ⟨a, b, c, d, e⟩ := z
  unfold putE clI
  simp only [St.mk.injEq]
  grind
theorem rvalue_con (s : Se) : Con Try.prog 16 [seV s] [] (.int .i64 (valI s.i s.v)) [] := by
  refine con_vc (E := E0) mixed (calls_envN _) (lok_envN _) (M := noM) lm_none (rvalue_vc s _) ?_
  simp only [br_iff]
  unfold valI
  grind
end Go.Proofs.Ytocehonfnpjcjaa.s11
