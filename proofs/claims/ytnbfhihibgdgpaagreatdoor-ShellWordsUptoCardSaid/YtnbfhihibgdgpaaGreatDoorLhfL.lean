/- A symbol's length: each symbol tried, by the kernel. -/
import Derived.Test.YtnbfhihibgdgpaaGreatDoorSz9
import Derived.Test.YtnbfhihibgdgpaaGreatDoorRows
import Derived.Test.YtnbfhihibgdgpaaGreatDoorLtok
set_option maxRecDepth 20000
set_option linter.unusedSimpArgs false
set_option linter.unusedVariables false
namespace Go.Proofs.YtnbfhihibgdgpaaGreatDoor.hf
open Go Go.Ev Go.Sy Go.RowKit Go.Proofs.YtnbfhihibgdgpaaGreatDoor.gl Go.Proofs.YtnbfhihibgdgpaaGreatDoor.tk
def lenL : List Nat := [13, 23, 28, 28, 28, 28, 28, 28, 28, 24, 30, 28, 28, 30, 28, 28,
28, 28, 28, 28, 28, 28, 30, 28, 28, 28, 28, 28, 28, 28, 28, 28, 6, 10, 10, 12, 13, 6, 8, 11, 10, 10, 8, 11, 8, 6, 6, 6,
5, 5, 5, 6, 6, 6, 6, 6, 6, 6, 7, 8, 15, 6, 12, 10, 13, 6, 7, 7, 7, 7, 7, 7, 7, 7, 7, 7, 7, 7, 7, 7,
7, 7, 7, 7, 7, 7, 7, 7, 8, 7, 8, 13, 19, 13, 14, 6, 15, 5, 6, 5, 6, 5, 6, 6, 6, 5, 7, 7, 6, 6, 6, 5,
6, 7, 6, 5, 5, 6, 7, 7, 7, 7, 7, 15, 11, 14, 13, 28, 20, 22, 20, 20, 22, 22, 22, 23, 22, 23, 23, 23, 23, 23, 24, 23,
24, 24, 22, 23, 24, 23, 23, 23, 23, 21, 22, 23, 22, 23, 23, 24, 22, 21, 20, 22, 22, 23, 23, 21, 23, 22, 22, 24, 21, 22, 23, 23,
21, 21, 22, 21, 23, 22, 23, 23, 20, 22, 22, 22, 23, 22, 22, 23, 26, 26, 20, 19, 22, 23, 22, 25, 26, 26, 26, 27, 27, 26, 24, 25,
19, 21, 26, 27, 27, 26, 27, 24, 21, 21, 26, 26, 28, 27, 27, 27, 20, 24, 20, 21, 22, 21, 21, 23, 22, 22, 25, 25, 24, 24, 26, 23,
26, 27, 26, 26, 27, 27, 27, 27, 27, 28, 27, 27, 27, 27, 27, 26, 30]
def hLen (s : Nat) : Nat := lenL.getD s 0
def hLenI (n : Int) : Int := if 0 ≤ n ∧ n < 257 then ((hLen n.toNat : Nat) : Int) else 0
noncomputable def syAll (P : Program) (f : FuncId) (spec : Nat → Nat) : Nat → Nat → Bool
  | 0, _ => true
  | k + 1, i => (match ret? (Ev.run P 1000 f [.int .i64 (Int.ofNat i)] ⟨.leaf, 0⟩) with
    | some (.int .i64 b) => b == Int.ofNat (spec i)
    | _ => false) && syAll P f spec k (i + 1)
def mLc := mOf [(330, [0, 1, 1, 1], fun _ _ _ _ => False)]
theorem len_vc (n v : Int) : mcall E0 mLc 60 330 [.int .i64 n] ⟨mkR (nums 0 []), 0⟩ (retIs 0 (.int .i64 v) []) =
  (br (decide (n < (0 : Int))) ((v = (0 : Int)) /\ True) (br (decide (n ≥ (257 : Int))) ((v = (0 : Int)) /\ True) False)) := by kernel_rfl
theorem syAll_spec {P : Program} {f : FuncId} {spec : Nat → Nat} : ∀ (k i : Nat), syAll P f spec k i = true → ∀ n, i ≤ n → n < i + k → ret? (Ev.run P 1000 f [.int .i64 (Int.ofNat n)] ⟨.leaf, 0⟩) = some (.int .i64 (Int.ofNat (spec n))) := by
  intro k
  induction k with
  | zero => intro i _ n h1 h2; omega
  | succ k ih =>
    intro i h n h1 h2
    simp only [syAll, Bool.and_eq_true] at h
    rcases Nat.lt_or_ge i n with hlt | hge
    · exact ih (i + 1) h.2 n (by omega) (by omega)
    · have : n = i := by omega
      subst this
      have h3 := h.1
      split at h3
      · rename_i b hb
        rw [hb, eq_of_beq h3]
      · simp at h3
theorem ok_len : okFn Tryz.prog 330 = true := by kernel_rfl
theorem sy0 : syAll Tryz.prog 330 hLen 32 0 = true := by kernel_rfl
theorem sy1 : syAll Tryz.prog 330 hLen 32 32 = true := by kernel_rfl
theorem sy2 : syAll Tryz.prog 330 hLen 32 64 = true := by kernel_rfl
theorem sy3 : syAll Tryz.prog 330 hLen 32 96 = true := by kernel_rfl
theorem sy4 : syAll Tryz.prog 330 hLen 32 128 = true := by kernel_rfl
theorem sy5 : syAll Tryz.prog 330 hLen 32 160 = true := by kernel_rfl
theorem sy6 : syAll Tryz.prog 330 hLen 32 192 = true := by kernel_rfl
theorem sy7 : syAll Tryz.prog 330 hLen 33 224 = true := by kernel_rfl
theorem sy_run (n : Nat) (h : n < 257) : ret? (Ev.run Tryz.prog 1000 330 [.int .i64 (Int.ofNat n)] ⟨.leaf, 0⟩) = some (.int .i64 (Int.ofNat (hLen n))) := by
  have h8 : n < 32 ∨ (32 ≤ n ∧ n < 64) ∨ (64 ≤ n ∧ n < 96) ∨ (96 ≤ n ∧ n < 128) ∨ (128 ≤ n ∧ n < 160) ∨ (160 ≤ n ∧ n < 192) ∨ (192 ≤ n ∧ n < 224) ∨ (224 ≤ n ∧ n < 257) := by omega
  rcases h8 with h | h | h | h | h | h | h | h
  · exact syAll_spec 32 0 sy0 n (by omega) (by omega)
  · exact syAll_spec 32 32 sy1 n h.1 (by omega)
  · exact syAll_spec 32 64 sy2 n h.1 (by omega)
  · exact syAll_spec 32 96 sy3 n h.1 (by omega)
  · exact syAll_spec 32 128 sy4 n h.1 (by omega)
  · exact syAll_spec 32 160 sy5 n h.1 (by omega)
  · exact syAll_spec 32 192 sy6 n h.1 (by omega)
  · exact syAll_spec 33 224 sy7 n h.1 (by omega)
theorem cut_len : PieceOk E0 0 (330, [0, 1, 1, 1], fun _ _ _ _ => False) := fun _ _ _ _ _ _ _ _ _ _ h => h.elim
theorem len_con (n : Int) : Con Tryz.prog 330 [.int .i64 n] [] (.int .i64 (hLenI n)) [] := by
  by_cases h : 0 ≤ n ∧ n < 257
  · obtain ⟨k, rfl⟩ : ∃ k : Nat, n = (k : Nat) := ⟨n.toNat, by omega⟩
    have e : hLenI (k : Int) = Int.ofNat (hLen k) := by unfold hLenI; rw [if_pos h]; simp
    rw [e]
    exact con_flat rfl rfl fun w => run_closed mixed ok_len (args := [.int .i64 (Int.ofNat k)]) rfl rfl (sy_run k (by omega)) w
  · have e : hLenI n = 0 := by unfold hLenI; rw [if_neg h]
    rw [e]
    refine con_vc (E := E0) mixed (calls_envN _) (lok_envN _) (M := mLc) (lm_one cut_len) (len_vc n _) ?_
    simp only [ofNat_eq, toNat_cast, Nat.zero_add, Nat.add_zero, Nat.mul_one, List.drop_zero, bCells_len, bCells_drop, bCells_take, bCells_app, bCells_one, bCells_plain, List.length_replicate, List.length_append, List.length_take, List.length_drop, List.take_length, and_true, true_and, and_self, decide_true, List.length_nil, List.length_cons, Nat.sub_zero, dB_mk, dB_ro, List.take_zero]
    exact br_if (fun _ => trivial) (fun h1 => br_dec (by omega) trivial)
end Go.Proofs.YtnbfhihibgdgpaaGreatDoor.hf
