/- A number's digits. -/
import Derived.Test.YtideeogedleabaaSz9
import Derived.Test.YtideeogedleabaaRows
import Derived.Test.YtideeogedleabaaLk9
set_option maxRecDepth 20000
set_option linter.unusedSimpArgs false
set_option linter.unusedVariables false
namespace Go.Proofs.Ytideeogedleabaa.tk
open Go Go.Ev Go.Sy Go.RowKit Go.Proofs.Ytideeogedleabaa.gl
def dgC (n : Nat) : UInt8 := UInt8.ofNat (48 + n % 10)
def dgL (n : Nat) : List UInt8 := if h : n < 10 then [dgC n] else dgL (n / 10) ++ [dgC n]
termination_by n
decreasing_by omega
structure StDg where
  n : Nat
  s : List UInt8
def pDg : List Nat := [0, 0, 1, 1]
def slDg (s : StDg) : List (Nat × Value) := [(0, .int .i64 (s.n : Nat)), (3, .string (bs s.s))]
def wsDg (n : Nat) : List (Gate StDg) := [⟨.exit 0, fun s => s.s = dgL n, fun s => [(3, .string (bs s.s))], fun _ => [], 0⟩]
def specDg : Sy.Spec := specOf 0 0 21 (fun n : Nat => n ≤ 1000000000000) (fun n => slDg ⟨n, []⟩) (fun _ => []) wsDg
def mDg := mOf [(21, pDg, specDg)]
theorem Dg_round (n : Nat) (s : StDg) (Inv : StDg → Prop) (m : StDg → Nat) : mev E0 noM 60 21 (0 :: pDg) false (codeOf Try.prog 21 (0 :: pDg)) ⟨mkOv (slDg s), 21, []⟩ none ⟨mkR [], 0⟩ (roundK 0 0 21 Inv m slDg (fun _ => []) (wsDg n) s) =
  (br (decide ((↑s.1 : Int) > (0 : Int))) (br (decide (1 + List.length (Array.toList (ByteArray.data (bs s.2))) <= 9223372036854775807)) (∃ j : StDg, ((Inv j) /\ ((m j < m
  s) /\ (((↑j.1 : Int) = IntKind.wrap IntKind.i64 (Int.tdiv (↑s.1 : Int) (10 : Int))) /\ ((bs j.2 = ByteArray.mk (Array.mk [UInt8.ofNat (Int.toNat (IntKind.wrap IntKind.u8
  (IntKind.wrap IntKind.i64 ((48 : Int) + Int.tmod (↑s.1 : Int) (10 : Int)))))]) ++ bs s.2) /\ True))))) False) (br (strEq (bs s.2) (ByteArray.mk #[])) (br (decide (1 +
  List.length (Array.toList (ByteArray.data (bs s.2))) <= 9223372036854775807)) (∃ j : StDg, ((Inv j) /\ ((m j < m s) /\ (((↑j.1 : Int) = IntKind.wrap IntKind.i64 (Int.tdiv
  (↑s.1 : Int) (10 : Int))) /\ ((bs j.2 = ByteArray.mk (Array.mk [UInt8.ofNat (Int.toNat (IntKind.wrap IntKind.u8 (IntKind.wrap IntKind.i64 ((48 : Int) + Int.tmod (↑s.1 :
  Int) (10 : Int)))))]) ++ bs s.2) /\ True))))) False) (∃ y : StDg, ((Eq (α := List UInt8) (y.2) (dgL n)) /\ ((bs y.2 = bs s.2) /\ True))))) := by kernel_rfl
theorem Dg_vc (n : Int) (v : ByteArray) : mcall E0 mDg 60 21 [.int .i64 n] ⟨mkR (nums 0 []), 0⟩ (retIs 0 (.string v) []) =
  (∃ g : Nat, ((g <= 1000000000000) /\ (((↑g : Int) = n) /\ ((bs [] = ByteArray.mk #[]) /\ (∀ (y : StDg), ((y.2 = dgL g) → ((v = bs y.2) /\ True))))))) := by kernel_rfl
theorem dg_lt (n : Nat) (h : n < 10) : dgL n = [dgC n] := by rw [dgL]; simp [h]
theorem dg_ge (n : Nat) (h : ¬ n < 10) : dgL n = dgL (n / 10) ++ [dgC n] := by rw [dgL]; simp [h]
theorem dgC_in (n : Nat) : 48 ≤ (dgC n).toNat ∧ (dgC n).toNat ≤ 57 ∧ (dgC n).toNat = 48 + n % 10 := by
  unfold dgC; rw [UInt8.toNat_ofNat']; omega
theorem dgL_in (n : Nat) : ∀ c ∈ dgL n, 48 ≤ c.toNat ∧ c.toNat ≤ 57 := by
  induction n using Nat.strongRecOn with
  | _ n ih =>
    intro c hc
    by_cases h : n < 10
    · rw [dg_lt n h] at hc; simp at hc; subst hc; exact ⟨(dgC_in n).1, (dgC_in n).2.1⟩
    · rw [dg_ge n h] at hc
      rcases List.mem_append.1 hc with hc | hc
      · exact ih _ (by omega) c hc
      · simp at hc; subst hc; exact ⟨(dgC_in n).1, (dgC_in n).2.1⟩
theorem dgL_ne (n : Nat) : dgL n ≠ [] := by
  by_cases h : n < 10
  · rw [dg_lt n h]; simp
  · rw [dg_ge n h]; simp
theorem dgL_len (n : Nat) : ∀ k, n < 10 ^ k → 0 < k → (dgL n).length ≤ k := by
  induction n using Nat.strongRecOn with
  | _ n ih =>
    intro k hk h0
    by_cases h : n < 10
    · rw [dg_lt n h]; simp; omega
    · rw [dg_ge n h]
      obtain ⟨k, rfl⟩ : ∃ j, k = j + 1 := ⟨k - 1, by omega⟩
      have hk2 : 0 < k := by
        rcases Nat.eq_zero_or_pos k with e | e
        · subst e; rw [Nat.zero_add, Nat.pow_one] at hk; omega
        · exact e
      have := ih (n / 10) (by omega) k (by rw [Nat.pow_succ] at hk; omega) hk2
      simp; omega
theorem secF_app : ∀ (a b : List UInt8) (n : Nat), secF (a ++ b) n = (secF a n).bind (secF b)
  | [], b, n => rfl
  | c :: a, b, n => by
    rw [List.cons_append, secF, secF]
    split
    · exact secF_app a b _
    · rfl
theorem secF_dg (n : Nat) (hn : n ≤ 2147483647) : secF (dgL n) 0 = some n := by
  induction n using Nat.strongRecOn with
  | _ n ih =>
    by_cases h : n < 10
    · rw [dg_lt n h]
      obtain ⟨a, b, c⟩ := dgC_in n
      rw [secF, if_pos ⟨a, b⟩, secF, c]
      congr 1; omega
    · rw [dg_ge n h, secF_app, ih (n / 10) (by omega) (by omega)]
      obtain ⟨a, b, c⟩ := dgC_in n
      rw [Option.bind_some, secF, if_pos ⟨a, b⟩, secF, c]
      congr 1; omega
theorem secL_dg (n : Nat) (hn : n ≤ 2147483647) : secL (dgL n) = (n : Nat) := by
  unfold secL; rw [if_neg (dgL_ne n), secF_dg n hn]; rfl
theorem dg_step (n : Nat) (s : List UInt8) (t : List UInt8) (h : (if 0 < n ∨ s = [] then dgL n ++ s else s) = t) (hc : 0 < n ∨ s = []) : (if 0 < n / 10 ∨ dgC n :: s = [] then dgL (n / 10) ++ dgC n :: s else dgC n :: s) = t := by
  rw [if_pos hc] at h
  subst h
  by_cases hn : n < 10
  · rw [if_neg (by simp; omega), dg_lt n hn]; rfl
  · rw [if_pos (by left; omega), dg_ge n hn]; simp
theorem Dg_piece : PieceOk E0 0 (21, pDg, specDg) := by
  refine piece_loop mixed (calls_envN _) (lok_envN _) lm_none (n := 60) (by kernel_rfl) (fun n : Nat => (⟨n, []⟩ : StDg)) (fun n s => s.n ≤ 1000000000000 ∧ (if 0 < s.n ∨ s.s = [] then dgL s.n ++ s.s else s.s) = dgL n) (fun n s => s.n + if s.s = [] then 1 else 0) (sl := fun _ => slDg) (rl := fun _ _ => []) (fun n hn => ⟨hn, by simp⟩) (fun n s hg hi => ?_)
  refine (Dg_round n s _ _).mpr ?_
  obtain ⟨k, s⟩ := s
  obtain ⟨h1, h2⟩ := hi
  simp only at h1 h2
  have e0 : (⟨#[]⟩ : ByteArray) = bs [] := rfl
  have q1 : (k : Int).tmod 10 = ((k % 10 : Nat) : Int) := by rw [Int.tmod_eq_emod_of_nonneg (by omega)]; omega
  have q2 : (k : Int).tdiv 10 = ((k / 10 : Nat) : Int) := by rw [Int.tdiv_eq_ediv_of_nonneg (by omega)]; omega
  simp only [ofNat_eq, toNat_cast, Nat.zero_add, Nat.add_zero, Nat.mul_one, List.drop_zero, bCells_len, bCells_drop, bCells_take, bCells_app, bCells_one, bCells_plain, List.length_replicate, List.length_append, List.length_take, List.length_drop, List.take_length, and_true, true_and, and_self, decide_true, List.length_nil, List.length_cons, Nat.sub_zero, dB_mk, dB_ro, List.take_zero, e0, strEq_bs, q1, q2]
  have hlen : s.length ≤ 13 := by
    have h4 := dgL_len n 13 (by omega) (by omega)
    rw [← h2] at h4
    split at h4
    · rw [List.length_append] at h4; omega
    · exact h4
  have w : IntKind.i64.wrap ((k / 10 : Nat) : Int) = ((k / 10 : Nat) : Int) := wr64_id (by unfold I64; omega)
  have hb : (bs s).data.toList.length = s.length := bs_len s
  have hc : UInt8.ofNat (IntKind.u8.wrap (IntKind.i64.wrap (48 + ((k % 10 : Nat) : Int)))).toNat = dgC k := by
    rw [wr64_id (by unfold I64; omega), show (48 + ((k % 10 : Nat) : Int)) = ((48 + k % 10 : Nat) : Int) by omega, wru8_nat (by omega)]; rfl
  have hcat : (⟨#[dgC k]⟩ : ByteArray) ++ bs s = bs (dgC k :: s) := by rw [show (⟨#[dgC k]⟩ : ByteArray) = bs [dgC k] from rfl, bs_app]; rfl
  have hgo : (0 < k ∨ s = []) → (∃ j : StDg, (j.n ≤ 1000000000000 ∧ (if 0 < j.n ∨ j.s = [] then dgL j.n ++ j.s else j.s) = dgL n) ∧ ((j.n + if j.s = [] then 1 else 0) < k + if s = [] then 1 else 0) ∧ ((j.n : Nat) : Int) = ((k / 10 : Nat) : Int) ∧ bs j.s = bs (dgC k :: s)) := fun h => by
    refine ⟨⟨k / 10, dgC k :: s⟩, ⟨by simp only; omega, dg_step k s _ h2 h⟩, ?_, rfl, rfl⟩
    simp only
    rw [if_neg (by simp)]
    rcases h with h | h
    · split <;> omega
    · rw [if_pos h]; omega
  simp only [hb, hc, hcat, w]
  refine br_if (fun h => br_dec (by omega) (hgo (Or.inl (by omega)))) (fun h => br_if (fun h => br_dec (by omega) (hgo (Or.inr h))) (fun h3 => ?_))
  rw [if_neg (fun hh => hh.elim (fun a => by omega) h3)] at h2
  exact ⟨⟨k, s⟩, h2, rfl⟩
theorem Dg_con (n : Nat) (h : n ≤ 1000000000000) : Con Try.prog 21 [.int .i64 (n : Nat)] [] (.string (bs (dgL n))) [] := by
  refine con_vc (E := E0) mixed (calls_envN _) (lok_envN _) (M := mDg) (lm_one Dg_piece) (Dg_vc _ _) ?_
  exact ⟨n, h, rfl, rfl, fun y hy => ⟨by rw [hy], trivial⟩⟩
end Go.Proofs.Ytideeogedleabaa.tk
