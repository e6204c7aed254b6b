/- Steps cut short. -/
import Derived.Test.YtekijelmdajhlaaSz9
import Derived.Test.YtekijelmdajhlaaRows
import Derived.Test.YtekijelmdajhlaaLrnB
import Derived.Test.YtekijelmdajhlaaLiSame
set_option linter.unusedSimpArgs false
set_option linter.unusedVariables false
namespace Go.Proofs.Ytekijelmdajhlaa.gp
open Go Go.Ev Go.Sy Go.RowKit Go.Proofs.Ytekijelmdajhlaa.gl Go.Proofs.Ytekijelmdajhlaa.tk Go.Proofs.Ytekijelmdajhlaa.ic Go.Proofs.Ytekijelmdajhlaa.gm
noncomputable def eRunsP : EntM := entC 3 fun a r => match a, r with
  | [], [] => some (True, .bool true, [])
  | _, _ => none
def IsQ (r : Row) (n : Nat) : Prop := ∃ l, r = iRo .i64 l ∧ n = l.length ∧ l.length ≤ maxLen
noncomputable def sameI : Row → Row → Bool := Classical.choose (exZ fun (a b : Row) => decide (dI a = dI b))
noncomputable def eSame : EntM := entC 27 fun a r => match a, r with
  | [.slice (some ⟨0, 0, none⟩) n 1, .slice (some ⟨1, 0, none⟩) m 1], [r0, r1] => some (IsQ r0 n ∧ IsQ r1 m, .bool (sameI r0 r1), [])
  | _, _ => none
noncomputable def shL : Nat → Nat := Classical.choose (exZ fun n : Nat => min n 12)
def IsL (r : Row) (n : Nat) : Prop := ∃ l, r = gRo enA l ∧ n = l.length
noncomputable def eSh : EntM := entC 28 fun a r => match a, r with
  | [.slice (some ⟨0, 0, none⟩) n 5], [r0] => some (IsL r0 n, .slice (some ⟨0, 0, none⟩) (shL n) 5, [])
  | _, _ => none
theorem Sh_vc (l : List Ac) (m : Nat) : mcall (envT Try.prog []) noM 60 28 [.slice (some ⟨0, 0, none⟩) l.length 5] ⟨mkR (nums 0 [gRo enA l]), 1⟩ (retIs 1 (.slice (some ⟨0, 0, none⟩) m 5) [gRo enA l]) =
  (br (decide (Int.ofNat (List.length l) > (12 : Int))) (br (decide ((0 : Int) <= (↑0 : Int) /\ (↑0 : Int) <= (12 : Int) /\ (12 : Int) <= (↑(List.length l) : Int))) ((0 = 0)
  /\ ((m = 12) /\ ((Eq (α := List Value) (gC enA l) (gC enA l)) /\ ((Plain (gC enA l)) /\ True)))) False) ((0 = 0) /\ ((m = List.length l) /\ ((Eq (α := List Value) (gC enA
  l) (gC enA l)) /\ ((Plain (gC enA l)) /\ True))))) := by kernel_rfl
theorem z_same (a b : List Int) : sameI ⟨iCells .i64 a, true, .cells true⟩ ⟨iCells .i64 b, true, .cells true⟩ = decide (a = b) := by
  have h : sameI = _ := Classical.choose_spec (exZ fun (a b : Row) => decide (dI a = dI b))
  rw [h]; simp only [dI_mk]
theorem eSame_ok : EntOk Try.prog eSame := entC_ok (by
  intro a rows p v news h hp
  split at h <;> simp only [Option.some.injEq, Prod.mk.injEq, reduceCtorEq] at h
  obtain ⟨rfl, rfl, rfl⟩ := h
  obtain ⟨⟨x, rfl, rfl, h1⟩, ⟨y, rfl, rfl, _⟩⟩ := hp
  have := ibk.same_con x y h1
  unfold iRo at this ⊢
  rw [z_same]
  exact this)
theorem eRunsP_ok : EntOk Try.prog eRunsP := entC_ok (by
  intro a rows p v news h hp
  split at h <;> simp only [Option.some.injEq, Prod.mk.injEq, reduceCtorEq] at h
  obtain ⟨rfl, rfl, rfl⟩ := h
  exact con_run mixed (n := 1000000) (by kernel_rfl) (by kernel_rfl))
theorem noGo_reps (t : Nat) (s : ByteArray) (n : Nat) : noGo (reps t s n) = true := by
  unfold noGo reps
  rw [List.all_eq_true]
  intro e he
  rw [(List.mem_replicate.1 he).2]
  rfl
theorem z_shL (n : Nat) : shL n = min n 12 := congrFun (Classical.choose_spec (exZ fun n : Nat => min n 12)) n
theorem Sh_con (l : List Ac) : Con Try.prog 28 [.slice (some ⟨0, 0, none⟩) l.length 5] [gRo enA l] (.slice (some ⟨0, 0, none⟩) (shL l.length) 5) [gRo enA l] := by
  rw [z_shL]
  refine con_vc mixed (calls_envT all_nil) (lok_envT _ _) (M := noM) lm_none (Sh_vc l _) ?_
  simp only [ofNat_eq, toNat_cast, Nat.zero_add, Nat.add_zero, Nat.mul_one, List.drop_zero, bCells_len, bCells_drop, bCells_take, bCells_app, bCells_one, bCells_plain, List.length_replicate, List.length_append, List.length_take, List.length_drop, List.take_length, and_true, true_and, and_self, decide_true, List.length_nil, List.length_cons, Nat.sub_zero, dB_mk, dB_ro, List.take_zero, aPl]
  exact br_if (fun h => br_dec (by omega) (by omega)) (fun h => by omega)
theorem eSh_ok : EntOk Try.prog eSh := entC_ok (by
  intro a rows p v news h hp
  split at h <;> simp only [Option.some.injEq, Prod.mk.injEq, reduceCtorEq] at h
  obtain ⟨rfl, rfl, rfl⟩ := h
  obtain ⟨l, rfl, rfl⟩ := hp
  exact Sh_con l)
theorem q_ac {Q : Nat → Prop} {n : Nat} {cells : List Value} (h : ElemsQ Q [.i .i64, .i .i64, .i .i64, .i .i64, .b] n cells) : ∃ l : List Ac, l.length = n ∧ cells = gC enA l ∧ ∀ a ∈ l, OkA a := by
  obtain ⟨l, h1, h2, h3⟩ := h.data (α := Ac) enA OkA (fun c hc => by
    match c, hc with
    | [x, y, z, w, v], hc =>
      obtain ⟨c1, c2, c3, c4, c5, _⟩ := hc
      obtain ⟨a1, rfl, q1⟩ := cq_i c1
      obtain ⟨a2, rfl, q2⟩ := cq_i c2
      obtain ⟨a3, rfl, q3⟩ := cq_i c3
      obtain ⟨a4, rfl, q4⟩ := cq_i c4
      obtain ⟨a5, rfl⟩ := cq_b c5
      exact ⟨⟨a1, a2, a3, a4, a5⟩, rfl, Sy.wf64 q1, Sy.wf64 q2, Sy.wf64 q3, Sy.wf64 q4⟩)
  exact ⟨l, h1, h2, h3⟩
end Go.Proofs.Ytekijelmdajhlaa.gp
