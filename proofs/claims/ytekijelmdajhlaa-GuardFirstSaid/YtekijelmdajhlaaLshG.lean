/- Steps cut short. -/
import Derived.Test.YtekijelmdajhlaaSz9
import Derived.Test.YtekijelmdajhlaaRows
import Derived.Test.YtekijelmdajhlaaLrnB
import Derived.Test.YtekijelmdajhlaaLiSame
set_option linter.unusedSimpArgs false
set_option linter.unusedVariables false
namespace Go.Proofs.Ytekijelmdajhlaa.gp
open Go Go.Ev Go.Sy Go.RowKit Go.Proofs.Ytekijelmdajhlaa.gl Go.Proofs.Ytekijelmdajhlaa.tk Go.Proofs.Ytekijelmdajhlaa.ic Go.Proofs.Ytekijelmdajhlaa.gm
noncomputable def eRunsP : EntM := entC 3 fun a r => match a, r with
  | [], [] => some (True, .bool true, [])
  | _, _ => none
def IsQ (r : Row) (n : Nat) : Prop := ∃ l, r = iRo .i64 l ∧ n = l.length ∧ l.length ≤ maxLen
noncomputable def sameI : Row → Row → Bool := Classical.choose (exZ fun (a b : Row) => decide (dI a = dI b))
noncomputable def eSame : EntM := entC 27 fun a r => match a, r with
  | [.slice (some ⟨0, 0, none⟩) n 1, .slice (some ⟨1, 0, none⟩) m 1], [r0, r1] => some (IsQ r0 n ∧ IsQ r1 m, .bool (sameI r0 r1), [])
  | _, _ => none
theorem z_same (a b : List Int) : sameI ⟨iCells .i64 a, true, .cells true⟩ ⟨iCells .i64 b, true, .cells true⟩ = decide (a = b) := by
  have h : sameI = _ := Classical.choose_spec (exZ fun (a b : Row) => decide (dI a = dI b))
  rw [h]; simp only [dI_mk]
theorem eSame_ok : EntOk Try.prog eSame := entC_ok (by
  intro a rows p v news h hp
  split at h <;> simp only [Option.some.injEq, Prod.mk.injEq, reduceCtorEq] at h
  obtain ⟨rfl, rfl, rfl⟩ := h
  obtain ⟨⟨x, rfl, rfl, h1⟩, ⟨y, rfl, rfl, _⟩⟩ := hp
  have := ibk.same_con x y h1
  unfold iRo at this ⊢
  rw [z_same]
  exact this)
theorem eRunsP_ok : EntOk Try.prog eRunsP := entC_ok (by
  intro a rows p v news h hp
  split at h <;> simp only [Option.some.injEq, Prod.mk.injEq, reduceCtorEq] at h
  obtain ⟨rfl, rfl, rfl⟩ := h
  exact con_run mixed (n := 1000000) (by kernel_rfl) (by kernel_rfl))
theorem noGo_reps (t : Nat) (s : ByteArray) (n : Nat) : noGo (reps t s n) = true := by
  unfold noGo reps
  rw [List.all_eq_true]
  intro e he
  rw [(List.mem_replicate.1 he).2]
  rfl
theorem q_ac {Q : Nat → Prop} {n : Nat} {cells : List Value} (h : ElemsQ Q [.i .i64, .i .i64, .i .i64, .i .i64, .b] n cells) : ∃ l : List Ac, l.length = n ∧ cells = gC enA l ∧ ∀ a ∈ l, OkA a := by
  obtain ⟨l, h1, h2, h3⟩ := h.data (α := Ac) enA OkA (fun c hc => by
    match c, hc with
    | [x, y, z, w, v], hc =>
      obtain ⟨c1, c2, c3, c4, c5, _⟩ := hc
      obtain ⟨a1, rfl, q1⟩ := cq_i c1
      obtain ⟨a2, rfl, q2⟩ := cq_i c2
      obtain ⟨a3, rfl, q3⟩ := cq_i c3
      obtain ⟨a4, rfl, q4⟩ := cq_i c4
      obtain ⟨a5, rfl⟩ := cq_b c5
      exact ⟨⟨a1, a2, a3, a4, a5⟩, rfl, Sy.wf64 q1, Sy.wf64 q2, Sy.wf64 q3, Sy.wf64 q4⟩)
  exact ⟨l, h1, h2, h3⟩
end Go.Proofs.Ytekijelmdajhlaa.gp
