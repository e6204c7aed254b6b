/- Events of a stream, in parts. -/
import Derived.Test.YtcljhkbjpajfgaaSz9
import Derived.Test.YtcljhkbjpajfgaaRows
import Derived.Test.YtcljhkbjpajfgaaLints
set_option linter.unusedSimpArgs false
set_option linter.unusedVariables false
namespace Go.Proofs.Ytcljhkbjpajfgaa.s13
open Go Go.Ev Go.Sy Go.RowKit Go.Proofs.Ytcljhkbjpajfgaa.ic
theorem mixed : Try.prog.follows .mixedOrders = true := by kernel_rfl
noncomputable abbrev E0 : Env := envN Try.prog
theorem ex_br {α : Type} {c : Bool} {p q : α → Prop} (h : ∃ x, p x) (k : ∃ x, q x) : ∃ x, br c (p x) (q x) := by
  cases c
  · exact k
  · exact h
def nextC (s e : Int) (z : Int × Bool) : Prop := mcall E0 noM 60 12 [.int .i64 s, .int .i64 e] ⟨mkR (nums 0 []), 0⟩ (retIs 0 (.tuple #[.int .i64 z.1, .bool z.2]) [])
theorem next_vc (s e : Int) (z : Int × Bool) : mcall E0 noM 60 12 [.int .i64 s, .int .i64 e] ⟨mkR (nums 0 []), 0⟩ (retIs 0 (.tuple #[.int .i64 z.1, .bool z.2]) []) =
  (br (decide (e > (10 : Int)))
   (br (decide (IntKind.wrap IntKind.i64 (e - (10 : Int)) < (1 : Int)))
    ((z.1 = s) ∧
    ((z.2 = false) ∧
    True))
    (br (decide (IntKind.wrap IntKind.i64 (e - (10 : Int)) > (5 : Int)))
     ((z.1 = s) ∧
     ((z.2 = false) ∧
     True))
     (br (s == (0 : Int))
      (br (IntKind.wrap IntKind.i64 (e - (10 : Int)) == (2 : Int))
       ((z.1 = (1 : Int)) ∧
       ((z.2 = true) ∧
       True))
       (br (IntKind.wrap IntKind.i64 (e - (10 : Int)) == (1 : Int))
        ((z.1 = (2 : Int)) ∧
        ((z.2 = true) ∧
        True))
        ((z.1 = (0 : Int)) ∧
        ((z.2 = false) ∧
        True))))
      (br (s == (1 : Int))
       (br (IntKind.wrap IntKind.i64 (e - (10 : Int)) == (5 : Int))
        ((z.1 = (4 : Int)) ∧
        ((z.2 = true) ∧
        True))
        (br (IntKind.wrap IntKind.i64 (e - (10 : Int)) == (1 : Int))
         ((z.1 = (2 : Int)) ∧
         ((z.2 = true) ∧
         True))
         (br (IntKind.wrap IntKind.i64 (e - (10 : Int)) == (3 : Int))
          ((z.1 = (2 : Int)) ∧
          ((z.2 = true) ∧
          True))
          ((z.1 = (1 : Int)) ∧
          ((z.2 = true) ∧
          True)))))
       (br (s == (2 : Int))
        (br (IntKind.wrap IntKind.i64 (e - (10 : Int)) == (5 : Int))
         ((z.1 = (4 : Int)) ∧
         ((z.2 = true) ∧
         True))
         (br (s == (2 : Int))
          ((z.1 = s) ∧
          ((z.2 = false) ∧
          True))
          (br (IntKind.wrap IntKind.i64 (e - (10 : Int)) == (1 : Int))
           ((z.1 = (4 : Int)) ∧
           ((z.2 = true) ∧
           True))
           (br (IntKind.wrap IntKind.i64 (e - (10 : Int)) == (3 : Int))
            ((z.1 = (4 : Int)) ∧
            ((z.2 = true) ∧
            True))
            ((z.1 = s) ∧
            ((z.2 = true) ∧
            True))))))
        (br (s == (3 : Int))
         (br (IntKind.wrap IntKind.i64 (e - (10 : Int)) == (5 : Int))
          ((z.1 = (4 : Int)) ∧
          ((z.2 = true) ∧
          True))
          (br (s == (2 : Int))
           ((z.1 = s) ∧
           ((z.2 = false) ∧
           True))
           (br (IntKind.wrap IntKind.i64 (e - (10 : Int)) == (1 : Int))
            ((z.1 = (4 : Int)) ∧
            ((z.2 = true) ∧
            True))
            (br (IntKind.wrap IntKind.i64 (e - (10 : Int)) == (3 : Int))
             ((z.1 = (4 : Int)) ∧
             ((z.2 = true) ∧
             True))
             ((z.1 = s) ∧
             ((z.2 = true) ∧
             True))))))
         ((z.1 = s) ∧
         ((z.2 = false) ∧
         True))))))))
   (br (decide (e < (1 : Int)))
    ((z.1 = s) ∧
    ((z.2 = false) ∧
    True))
    (br (decide (e > (5 : Int)))
     ((z.1 = s) ∧
     ((z.2 = false) ∧
     True))
     (br (s == (0 : Int))
      (br (e == (2 : Int))
       ((z.1 = (1 : Int)) ∧
       ((z.2 = true) ∧
       True))
       (br (e == (1 : Int))
        ((z.1 = (3 : Int)) ∧
        ((z.2 = true) ∧
        True))
        ((z.1 = (0 : Int)) ∧
        ((z.2 = false) ∧
        True))))
      (br (s == (1 : Int))
       (br (e == (5 : Int))
        ((z.1 = (4 : Int)) ∧
        ((z.2 = true) ∧
        True))
        (br (e == (1 : Int))
         ((z.1 = (3 : Int)) ∧
         ((z.2 = true) ∧
         True))
         (br (e == (3 : Int))
          ((z.1 = (3 : Int)) ∧
          ((z.2 = true) ∧
          True))
          ((z.1 = (1 : Int)) ∧
          ((z.2 = true) ∧
          True)))))
       (br (s == (2 : Int))
        (br (e == (5 : Int))
         ((z.1 = (4 : Int)) ∧
         ((z.2 = true) ∧
         True))
         (br (s == (3 : Int))
          ((z.1 = s) ∧
          ((z.2 = false) ∧
          True))
          (br (e == (1 : Int))
           ((z.1 = (4 : Int)) ∧
           ((z.2 = true) ∧
           True))
           (br (e == (3 : Int))
            ((z.1 = (4 : Int)) ∧
            ((z.2 = true) ∧
            True))
            ((z.1 = s) ∧
            ((z.2 = true) ∧
            True))))))
        (br (s == (3 : Int))
         (br (e == (5 : Int))
          ((z.1 = (4 : Int)) ∧
          ((z.2 = true) ∧
          True))
          (br (s == (3 : Int))
           ((z.1 = s) ∧
           ((z.2 = false) ∧
           True))
           (br (e == (1 : Int))
            ((z.1 = (4 : Int)) ∧
            ((z.2 = true) ∧
            True))
            (br (e == (3 : Int))
             ((z.1 = (4 : Int)) ∧
             ((z.2 = true) ∧
             True))
             ((z.1 = s) ∧
             ((z.2 = true) ∧
             True))))))
         ((z.1 = s) ∧
         ((z.2 = false) ∧
         True))))))))) := by kernel_rfl
theorem next_ex (s e : Int) : ∃ z : Int × Bool, nextC s e z := by
  unfold nextC
  simp only [next_vc]
  repeat' refine ex_br ?_ ?_
  all_goals exact ⟨(_, _), rfl, rfl, trivial⟩
/-- What Next answers. -/
noncomputable def nxt (s e : Int) : Int × Bool := Classical.choose (next_ex s e)
theorem next_con (s e : Int) : Con Try.prog 12 [.int .i64 s, .int .i64 e] [] (.tuple #[.int .i64 (nxt s e).1, .bool (nxt s e).2]) [] :=
  con_vc (E := E0) mixed (calls_envN _) (lok_envN _) (M := noM) lm_none rfl (Classical.choose_spec (next_ex s e))
end Go.Proofs.Ytcljhkbjpajfgaa.s13
