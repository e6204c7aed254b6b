/- Settings, told to a set. -/
import Derived.Test.YtocehonfnpjcjaaSz9
import Derived.Test.YtocehonfnpjcjaaRows
set_option linter.unusedSimpArgs false
set_option linter.unusedVariables false
namespace Go.Proofs.Ytocehonfnpjcjaa.s11
open Go Go.Ev Go.Sy Go.RowKit
theorem mixed : Try.prog.follows .mixedOrders = true := by kernel_rfl
noncomputable abbrev E0 : Env := envN Try.prog
theorem ex_br {α : Type} {c : Bool} {p q : α → Prop} (h : ∃ x, p x) (k : ∃ x, q x) : ∃ x, br c (p x) (q x) := by
  cases c
  · exact k
  · exact h
structure St where
  a : Int
  b : Int
  c : Int
  d : Int
  e : Int
/-- A setting: its id, its value. -/
structure Se where
  i : Int
  v : Int
def stC (x : St) : List Value := [.int .i64 x.a, .int .i64 x.b, .int .i64 x.c, .int .i64 x.d, .int .i64 x.e]
def stV (x : St) : Value := .agg ⟨stC x⟩
def seC (x : Se) : List Value := [.int .i64 x.i, .int .i64 x.v]
def seV (x : Se) : Value := .agg ⟨seC x⟩
theorem value_vc (s : Se) (z : Int) : mcall E0 noM 60 11 [seV s] ⟨mkR (nums 0 []), 0⟩ (retIs 0 (.int .i64 z) []) =
  (br (s.1 == (2 : Int))
   (br (s.2 != (0 : Int))
    (br (s.2 != (1 : Int))
     ((z = (1 : Int)) ∧
     True)
     ((z = (0 : Int)) ∧
     True))
    ((z = (0 : Int)) ∧
    True))
   (br (s.1 == (4 : Int))
    (br (decide (s.2 < (0 : Int)))
     ((z = (3 : Int)) ∧
     True)
     (br (decide (s.2 > (2147483647 : Int)))
      ((z = (3 : Int)) ∧
      True)
      ((z = (0 : Int)) ∧
      True)))
    (br (s.1 == (5 : Int))
     (br (decide (s.2 < (16384 : Int)))
      ((z = (1 : Int)) ∧
      True)
      (br (decide (s.2 > (16777215 : Int)))
       ((z = (1 : Int)) ∧
       True)
       ((z = (0 : Int)) ∧
       True)))
     ((z = (0 : Int)) ∧
     True)))) := by kernel_rfl
theorem set_vc (x : St) (s : Se) (z : St) : mcall E0 noM 60 21 [stV x, seV s] ⟨mkR (nums 0 []), 0⟩ (retIs 0 (stV z) []) =
  (br (s.1 == (1 : Int))
   ((z.1 = if (2147483647 : Int) < if (0 : Int) > s.2 then (0 : Int) else s.2 then (2147483647 : Int) else if (0 : Int) > s.2 then (0 : Int) else s.2) ∧
   ((z.2 = x.2) ∧
   ((z.3 = x.3) ∧
   ((z.4 = x.4) ∧
   ((z.5 = x.5) ∧
   True)))))
   (br (s.1 == (3 : Int))
    ((z.1 = x.1) ∧
    ((z.2 = if (2147483647 : Int) < if (0 : Int) > s.2 then (0 : Int) else s.2 then (2147483647 : Int) else if (0 : Int) > s.2 then (0 : Int) else s.2) ∧
    ((z.3 = x.3) ∧
    ((z.4 = x.4) ∧
    ((z.5 = x.5) ∧
    True)))))
    (br (s.1 == (4 : Int))
     ((z.1 = x.1) ∧
     ((z.2 = x.2) ∧
     ((z.3 = if (2147483647 : Int) < if (0 : Int) > s.2 then (0 : Int) else s.2 then (2147483647 : Int) else if (0 : Int) > s.2 then (0 : Int) else s.2) ∧
     ((z.4 = x.4) ∧
     ((z.5 = x.5) ∧
     True)))))
     (br (s.1 == (5 : Int))
      ((z.1 = x.1) ∧
      ((z.2 = x.2) ∧
      ((z.3 = x.3) ∧
      ((z.4 = if (2147483647 : Int) < if (0 : Int) > s.2 then (0 : Int) else s.2 then (2147483647 : Int) else if (0 : Int) > s.2 then (0 : Int) else s.2) ∧
      ((z.5 = x.5) ∧
      True)))))
      (br (s.1 == (6 : Int))
       ((z.1 = x.1) ∧
       ((z.2 = x.2) ∧
       ((z.3 = x.3) ∧
       ((z.4 = x.4) ∧
       ((z.5 = if (2147483647 : Int) < if (0 : Int) > s.2 then (0 : Int) else s.2 then (2147483647 : Int) else if (0 : Int) > s.2 then (0 : Int) else s.2) ∧
       True)))))
       ((z.1 = x.1) ∧
       ((z.2 = x.2) ∧
       ((z.3 = x.3) ∧
       ((z.4 = x.4) ∧
       ((z.5 = x.5) ∧
       True)))))))))) := by kernel_rfl

def valueC (s : Se) (z : Int) : Prop := mcall E0 noM 60 11 [seV s] ⟨mkR (nums 0 []), 0⟩ (retIs 0 (.int .i64 z) [])
def setC (x : St) (s : Se) (z : St) : Prop := mcall E0 noM 60 21 [stV x, seV s] ⟨mkR (nums 0 []), 0⟩ (retIs 0 (stV z) [])
theorem value_ex (s : Se) : ∃ z, valueC s z := by
  unfold valueC
  simp only [value_vc]
  repeat' refine ex_br ?_ ?_
  all_goals exact ⟨_, rfl, trivial⟩
theorem set_ex (x : St) (s : Se) : ∃ z, setC x s z := by
  unfold setC
  obtain ⟨a, b, c, d, e⟩ := x
  simp only [set_vc]
  repeat' refine ex_br ?_ ?_
  all_goals exact ⟨⟨_, _, _, _, _⟩, rfl, rfl, rfl, rfl, rfl, trivial⟩
noncomputable def vl (s : Se) : Int := Classical.choose (value_ex s)
noncomputable def put (x : St) (s : Se) : St := Classical.choose (set_ex x s)
theorem value_con (s : Se) : Con Try.prog 11 [seV s] [] (.int .i64 (vl s)) [] :=
  con_vc (E := E0) mixed (calls_envN _) (lok_envN _) (M := noM) lm_none rfl (Classical.choose_spec (value_ex s))
theorem set_con (x : St) (s : Se) : Con Try.prog 21 [stV x, seV s] [] (stV (put x s)) [] :=
  con_vc (E := E0) mixed (calls_envN _) (lok_envN _) (M := noM) lm_none rfl (Classical.choose_spec (set_ex x s))
end Go.Proofs.Ytocehonfnpjcjaa.s11
