/- An environment where functions that can't be reached are cut. -/
import Derived.Test.YtcallecdjebojaaGreatSz9
import Derived.Test.YtcallecdjebojaaGreatRows
set_option maxRecDepth 20000
set_option linter.unusedSimpArgs false
set_option linter.unusedVariables false
namespace Go.Proofs.YtcallecdjebojaaGreat.cu
open Go Go.Ev Go.Sy Go.RowKit
noncomputable def cutL (fs : List FuncId) : FuncId → List Nat → Option Sy.Spec := fun f p => match p with | [] => bif fs.any (Nat.beq f) then some (fun _ _ _ _ => False) else none | _ => none
noncomputable def envCut (E : Env) (fs : List FuncId) : Env := { E with L := cutL fs }
theorem cut_calls {P : Program} {E : Env} {fs : List FuncId} (h : CallsOk P (oOf E)) : CallsOk P (oOf (envCut E fs)) := h
theorem cut_lok {E : Env} {fs : List FuncId} : LOk (envCut E fs) := fun f p spec fn c0 c hl _ _ _ fr u h K hs => by
  have hl : cutL fs f p = some spec := hl
  unfold cutL at hl
  split at hl
  · cases hb : fs.any (Nat.beq f) with
    | true => rw [hb] at hl; simp only [cond_true, Option.some.injEq] at hl; subst hl; exact hs.elim
    | false => rw [hb] at hl; simp at hl
  · simp at hl
end Go.Proofs.YtcallecdjebojaaGreat.cu
