/- The static table: its fields, by number. -/
import Derived.Test.YtellbmbklfbbfaaSz9
import Derived.Test.YtellbmbklfbbfaaRows
import Derived.Test.YtellbmbklfbbfaaLtok
set_option maxRecDepth 20000
set_option linter.unusedSimpArgs false
set_option linter.unusedVariables false
namespace Go.Proofs.Ytellbmbklfbbfaa.tk
open Go Go.Ev Go.Sy Go.RowKit Go.Proofs.Ytellbmbklfbbfaa.gl
noncomputable def stR (k : Nat) : Option Value := ret? (Ev.run Try.prog 3000 51 [.int .i64 (Int.ofNat k)] ⟨.leaf, 0⟩)
noncomputable def stW (k : Nat) : Option Value := ret? (Ev.run Try.prog 3000 48 [.int .i64 (Int.ofNat k)] ⟨.leaf, 0⟩)
def twoS : Option Value → ByteArray × ByteArray
  | some (.tuple ⟨[.agg ⟨[.string a, .string b]⟩, .bool true]⟩) => (a, b)
  | _ => (⟨#[]⟩, ⟨#[]⟩)
noncomputable def okTwo (k : Nat) : Bool := match stR k, stW k with
  | some (.tuple ⟨[.agg ⟨[.string a, .string b]⟩, .bool true]⟩), some (.tuple ⟨[.agg ⟨[.string c, .string d]⟩, .bool true]⟩) => strEq a c && strEq b d
  | _, _ => false
noncomputable def okAll : Nat → Nat → Bool
  | 0, _ => true
  | n + 1, k => okTwo k && okAll n (k + 1)
def inR (i : Int) : Bool := decide (1 ≤ i ∧ i ≤ 61)
noncomputable def stA (i : Int) : ByteArray := if inR i then (twoS (stR i.toNat)).1 else ⟨#[]⟩
noncomputable def stB (i : Int) : ByteArray := if inR i then (twoS (stR i.toNat)).2 else ⟨#[]⟩
noncomputable def eVd : EntM := entC 55 fun a r => match a, r with
  | [.int .i64 i], [] => some (False, .agg ⟨[.string ⟨#[]⟩, .string ⟨#[]⟩]⟩, [])
  | _, _ => none
noncomputable def eBr : EntM := entC 56 fun a r => match a, r with
  | [.int .i64 i], [] => some (False, .string ⟨#[]⟩, [])
  | _, _ => none
noncomputable def tCut : List EntM := [eVd, eBr]
noncomputable abbrev EtCut : Env := envT Try.prog tCut
def mCut := mOf [(48, [0, 1, 1, 1], fun _ _ _ _ => False)]
noncomputable def eSt1 : EntM := entC 51 fun a r => match a, r with
  | [.int .i64 i], [] => some (I64 i, .tuple #[.agg ⟨[.string (stA i), .string (stB i)]⟩, .bool (inR i)], [])
  | _, _ => none
noncomputable def eSt2 : EntM := entC 48 fun a r => match a, r with
  | [.int .i64 i], [] => some (I64 i, .tuple #[.agg ⟨[.string (stA i), .string (stB i)]⟩, .bool (inR i)], [])
  | _, _ => none
theorem St_out (i : Int) : mcall EtCut noM 60 51 [.int .i64 i] ⟨mkR (nums 0 []), 0⟩ (retIs 0 (.tuple #[.agg ⟨[.string ⟨#[]⟩, .string ⟨#[]⟩]⟩, .bool false]) []) =
  (br (decide (i < (1 : Int))) ((ByteArray.mk #[] = ByteArray.mk #[]) /\ ((ByteArray.mk #[] = ByteArray.mk #[]) /\ ((false = false) /\ True))) (br (decide (i > (61 : Int)))
  ((ByteArray.mk #[] = ByteArray.mk #[]) /\ ((ByteArray.mk #[] = ByteArray.mk #[]) /\ ((false = false) /\ True))) (br (decide (i <= (16 : Int))) ((((True /\ True) /\ (True
  /\ (True /\ False)))) /\ ((ByteArray.mk #[] = ByteArray.mk #[]) /\ ((ByteArray.mk #[] = ByteArray.mk #[]) /\ ((false = true) /\ True)))) ((((True /\ True) /\ (True /\
  (True /\ False)))) /\ ((ByteArray.mk #[] = ByteArray.mk #[]) /\ ((ByteArray.mk #[] = ByteArray.mk #[]) /\ ((false = true) /\ True))))))) := by kernel_rfl
theorem Sw_out (i : Int) : mcall E0 mCut 60 48 [.int .i64 i] ⟨mkR (nums 0 []), 0⟩ (retIs 0 (.tuple #[.agg ⟨[.string ⟨#[]⟩, .string ⟨#[]⟩]⟩, .bool false]) []) =
  (br (decide (i < (1 : Int))) ((ByteArray.mk #[] = ByteArray.mk #[]) /\ ((ByteArray.mk #[] = ByteArray.mk #[]) /\ ((false = false) /\ True))) (br (decide (i > (61 : Int)))
  ((ByteArray.mk #[] = ByteArray.mk #[]) /\ ((ByteArray.mk #[] = ByteArray.mk #[]) /\ ((false = false) /\ True))) False)) := by kernel_rfl
theorem eVd_ok : EntOk Try.prog eVd := entC_ok (by
  intro a rows p v news h hp
  split at h <;> simp only [Option.some.injEq, Prod.mk.injEq, reduceCtorEq] at h
  obtain ⟨rfl, rfl, rfl⟩ := h
  exact hp.elim)
theorem eBr_ok : EntOk Try.prog eBr := entC_ok (by
  intro a rows p v news h hp
  split at h <;> simp only [Option.some.injEq, Prod.mk.injEq, reduceCtorEq] at h
  obtain ⟨rfl, rfl, rfl⟩ := h
  exact hp.elim)
theorem tCut_ok : ∀ x ∈ tCut, EntOk Try.prog x := all_cons eVd_ok (all_cons eBr_ok (all_nil))
theorem cut_piece : PieceOk E0 0 (48, [0, 1, 1, 1], fun _ _ _ _ => False) := fun _ _ _ _ _ _ _ _ _ _ h => h.elim
theorem all16 : okAll 16 1 = true := by kernel_rfl
theorem all32 : okAll 16 17 = true := by kernel_rfl
theorem all48 : okAll 16 33 = true := by kernel_rfl
theorem all61 : okAll 13 49 = true := by kernel_rfl
theorem okAll_at : ∀ (n k : Nat), okAll n k = true → ∀ j, k ≤ j → j < k + n → okTwo j = true
  | 0, k, _, j, h1, h2 => by omega
  | n + 1, k, h, j, h1, h2 => by
    simp only [okAll, Bool.and_eq_true] at h
    by_cases e : j = k
    · subst e; exact h.1
    · exact okAll_at n (k + 1) h.2 j (by omega) (by omega)
theorem okTwo_in (j : Nat) (h1 : 1 ≤ j) (h2 : j ≤ 61) : okTwo j = true := by
  rcases Nat.lt_or_ge j 17 with h | h
  · exact okAll_at _ _ all16 j h1 h
  · rcases Nat.lt_or_ge j 33 with h | h
    · exact okAll_at _ _ all32 j (by omega) h
    · rcases Nat.lt_or_ge j 49 with h | h
      · exact okAll_at _ _ all48 j (by omega) h
      · exact okAll_at _ _ all61 j (by omega) (by omega)
theorem strEq_eq {a b : ByteArray} (h : strEq a b = true) : a = b := by
  have := strEq_bs (L a) (L b)
  rw [bsL, bsL] at this
  rw [this] at h
  have e : L a = L b := of_decide_eq_true h
  have := congrArg bs e
  rwa [bsL, bsL] at this
theorem okTwo_val {j : Nat} (h : okTwo j = true) : ∃ a b, twoS (stR j) = (a, b) ∧ stR j = some (.tuple ⟨[.agg ⟨[.string a, .string b]⟩, .bool true]⟩) ∧ stW j = some (.tuple ⟨[.agg ⟨[.string a, .string b]⟩, .bool true]⟩) := by
  unfold okTwo at h
  split at h
  · rename_i a b c d h1 h2
    simp only [Bool.and_eq_true] at h
    have e1 := strEq_eq h.1
    have e2 := strEq_eq h.2
    subst e1; subst e2
    exact ⟨a, b, by rw [h1]; rfl, h1, h2⟩
  · simp at h
theorem ok_f1 : okFn Try.prog 51 = true := by kernel_rfl
theorem ok_f2 : okFn Try.prog 48 = true := by kernel_rfl
theorem St_con (i : Int) (hi : I64 i) : Con Try.prog 51 [.int .i64 i] [] (.tuple #[.agg ⟨[.string (stA i), .string (stB i)]⟩, .bool (inR i)]) [] := by
  by_cases h : 1 ≤ i ∧ i ≤ 61
  · have hr : inR i = true := decide_eq_true h
    obtain ⟨j, rfl⟩ : ∃ j : Nat, i = j := ⟨i.toNat, by omega⟩
    obtain ⟨a, b, h1, h2, h3⟩ := okTwo_val (okTwo_in j (by omega) (by omega))
    unfold stA stB
    simp only [hr, if_true, Int.toNat_natCast, h1]
    exact con_flat rfl rfl fun w => run_closed mixed ok_f1 (args := [.int .i64 (Int.ofNat j)]) rfl rfl h2 w
  · have hr : inR i = false := decide_eq_false h
    unfold stA stB
    simp only [hr, Bool.false_eq_true, if_false]
    refine con_vc (E := EtCut) mixed (calls_envT tCut_ok) (lok_envT _ _) (M := noM) lm_none (St_out i) ?_
    simp only [ofNat_eq, toNat_cast, Nat.zero_add, Nat.add_zero, Nat.mul_one, List.drop_zero, bCells_len, bCells_drop, bCells_take, bCells_app, bCells_one, bCells_plain, List.length_replicate, List.length_append, List.length_take, List.length_drop, List.take_length, and_true, true_and, and_self, decide_true, List.length_nil, List.length_cons, Nat.sub_zero, dB_mk, dB_ro, List.take_zero]
    refine br_if (fun _ => trivial) (fun h1 => br_if (fun _ => trivial) (fun h2 => ?_))
    exact absurd ⟨by omega, by omega⟩ h
theorem Sw_con (i : Int) (hi : I64 i) : Con Try.prog 48 [.int .i64 i] [] (.tuple #[.agg ⟨[.string (stA i), .string (stB i)]⟩, .bool (inR i)]) [] := by
  by_cases h : 1 ≤ i ∧ i ≤ 61
  · have hr : inR i = true := decide_eq_true h
    obtain ⟨j, rfl⟩ : ∃ j : Nat, i = j := ⟨i.toNat, by omega⟩
    obtain ⟨a, b, h1, h2, h3⟩ := okTwo_val (okTwo_in j (by omega) (by omega))
    unfold stA stB
    simp only [hr, if_true, Int.toNat_natCast, h1]
    exact con_flat rfl rfl fun w => run_closed mixed ok_f2 (args := [.int .i64 (Int.ofNat j)]) rfl rfl h3 w
  · have hr : inR i = false := decide_eq_false h
    unfold stA stB
    simp only [hr, Bool.false_eq_true, if_false]
    refine con_vc (E := E0) mixed (calls_envN _) (lok_envN _) (M := mCut) (lm_one cut_piece) (Sw_out i) ?_
    simp only [ofNat_eq, toNat_cast, Nat.zero_add, Nat.add_zero, Nat.mul_one, List.drop_zero, bCells_len, bCells_drop, bCells_take, bCells_app, bCells_one, bCells_plain, List.length_replicate, List.length_append, List.length_take, List.length_drop, List.take_length, and_true, true_and, and_self, decide_true, List.length_nil, List.length_cons, Nat.sub_zero, dB_mk, dB_ro, List.take_zero]
    refine br_if (fun _ => trivial) (fun h1 => br_if (fun _ => trivial) (fun h2 => ?_))
    exact absurd ⟨by omega, by omega⟩ h
theorem eSt1_ok : EntOk Try.prog eSt1 := entC_ok (by
  intro a rows p v news h hp
  split at h <;> simp only [Option.some.injEq, Prod.mk.injEq, reduceCtorEq] at h
  obtain ⟨rfl, rfl, rfl⟩ := h
  exact St_con _ hp)
theorem eSt2_ok : EntOk Try.prog eSt2 := entC_ok (by
  intro a rows p v news h hp
  split at h <;> simp only [Option.some.injEq, Prod.mk.injEq, reduceCtorEq] at h
  obtain ⟨rfl, rfl, rfl⟩ := h
  exact Sw_con _ hp)
end Go.Proofs.Ytellbmbklfbbfaa.tk
