/- ConnRefuses: a run of the law, by two numbers. -/
import Derived.Test.YtcallecdjebojaaGreatSz9
import Derived.Test.YtcallecdjebojaaGreatRows
import Derived.Test.YtcallecdjebojaaGreatLcfA
import Derived.Test.YtcallecdjebojaaGreatLwit
set_option maxRecDepth 20000
set_option linter.unusedSimpArgs false
set_option linter.unusedVariables false
namespace Go.Proofs.YtcallecdjebojaaGreat.cf
open Go Go.Ev Go.Sy Go.RowKit Go.Proofs.YtcallecdjebojaaGreat.ck Go.Proofs.YtcallecdjebojaaGreat.cp Go.Proofs.YtcallecdjebojaaGreat.tk
noncomputable def eRunsF : EntM := entC 3 fun a r => match a, r with
  | [], [] => some (True, .bool true, [])
  | _, _ => none
noncomputable def eWn (K W : Int) : EntM := entC 27 fun a r => match a, r with
  | [.int .i64 n, .int .i64 lo, .int .i64 hi], [] => bif decide (lo = 1) then some (inside n 1 9 = K ∧ lo = 1 ∧ hi = 9 ∧ I64 n, .int .i64 K, []) else some (inside n 0 20 = W ∧ lo = 0 ∧ hi = 20 ∧ I64 n, .int .i64 W, [])
  | _, _ => none
noncomputable def envTo (P : Program) (l : List EntM) (O : CallF) : Env := { envT P l with clo := true, O := O }
def e_sF (k r : Nat) : CEnt := ⟨15, [slv 0 0 (13 * r), slv 1 0 (13 * r)], [⟨rsF k r, true, .cells true⟩, ⟨rsF k r, true, .cells true⟩], .bool true, 2, nums 0 [⟨rsF k r, true, .cells true⟩, ⟨rsF k r, true, .cells true⟩]⟩
def LG (k n : Nat) : List CEnt := bif Nat.ble n k then LF k n else LF k n ++ [e_sF k (n - k)]
noncomputable abbrev EF (k n : Nat) : Env := envTo Tryz.prog [eWn (.ofNat k) (.ofNat n), eRunsF] (oC Tryz.prog (LG k n) (fun _ _ _ => none))
noncomputable def mlF (k n : Nat) (a o : Int) : Prop := mcall (EF k n) noM 5000 8 [.int .i64 a, .int .i64 o] ⟨mkR (nums 0 []), 0⟩ (retIs 0 (.bool true) [])
def cdR (k n : Nat) (a o : Int) : Prop := ((((True ∧ (True ∧ (True ∧ True))) ∧ (True ∧ (True ∧ (inside a 1 9 = Int.ofNat k ∧ ((1 : Int) = 1 ∧ ((9 : Int) = 9 ∧ I64 a))))))) ∧
  ((((True ∧ (True ∧ (True ∧ True))) ∧ (True ∧ (True ∧ (inside o 0 20 = Int.ofNat n ∧ ((0 : Int) = 0 ∧ ((20 : Int) = 20 ∧ I64 o))))))) ∧
  (((True ∧ (True ∧ (True ∧ True)))) ∧ ((true = true) ∧ True))))
theorem calls_envTo {P : Program} {l : List EntM} {O : CallF} (hO : CallsOk P O) (h : ∀ x ∈ l, EntOk P x) : CallsOk P (oOf (envTo P l O)) := by
  intro B f args hp r h' μ w args' he hw hargs hok
  unfold oOf at he
  cases ho : O f args hp with
  | some x =>
    have e1 : (envTo P l O).O f args hp = some x := ho
    rw [e1] at he
    simp only [Option.some.injEq] at he
    subst he
    exact hO B f args hp r h' μ w args' ho hw hargs hok
  | none =>
    have e1 : (envTo P l O).O f args hp = none := ho
    rw [e1] at he
    simp only at he
    refine calls_envT h B f args hp r h' μ w args' ?_ hw hargs hok
    rw [oOf_none _ rfl]
    exact he
theorem lok_envTo (P : Program) (l : List EntM) (O : CallF) : LOk (envTo P l O) := lok_none fun _ _ => rfl
end Go.Proofs.YtcallecdjebojaaGreat.cf
