/- ConnRefuses: of streams that a client opens and leaves open so many are there as are allowed; each one more is reset by Refused, and the others stay. -/
import Derived.Test.YtcallecdjebojaaGreatSz9
import Derived.Test.YtcallecdjebojaaGreatRows
import Derived.Test.YtcallecdjebojaaGreatLbkS
import Derived.Test.YtcallecdjebojaaGreatLcfC1
import Derived.Test.YtcallecdjebojaaGreatLcfC2
import Derived.Test.YtcallecdjebojaaGreatLcfC3
import Derived.Test.YtcallecdjebojaaGreatLcfC4
import Derived.Test.YtcallecdjebojaaGreatLcfC5
import Derived.Test.YtcallecdjebojaaGreatLcfC6
import Derived.Test.YtcallecdjebojaaGreatLcfC7
import Derived.Test.YtcallecdjebojaaGreatLcfC8
import Derived.Test.YtcallecdjebojaaGreatLcfC9
import Derived.Test.YtcallecdjebojaaGreatLcfR1
import Derived.Test.YtcallecdjebojaaGreatLcfR2
import Derived.Test.YtcallecdjebojaaGreatLcfR3
import Derived.Test.YtcallecdjebojaaGreatLcfR4
import Derived.Test.YtcallecdjebojaaGreatLcfR5
import Derived.Test.YtcallecdjebojaaGreatLcfR6
import Derived.Test.YtcallecdjebojaaGreatLcfR7
import Derived.Test.YtcallecdjebojaaGreatLcfR8
import Derived.Test.YtcallecdjebojaaGreatLcfR9
set_option maxRecDepth 20000
set_option linter.unusedSimpArgs false
set_option linter.unusedVariables false
namespace Go.Proofs.YtcallecdjebojaaGreat.cf
open Go Go.Ev Go.Sy Go.RowKit Go.Proofs.YtcallecdjebojaaGreat.ck Go.Proofs.YtcallecdjebojaaGreat.cp Go.Proofs.YtcallecdjebojaaGreat.tk
theorem eRunsF_ok : EntOk Tryz.prog eRunsF := entC_ok (by
  intro a rows p v news h hp
  split at h <;> simp only [Option.some.injEq, Prod.mk.injEq, reduceCtorEq] at h
  obtain ⟨rfl, rfl, rfl⟩ := h
  exact con_run Go.Proofs.YtcallecdjebojaaGreat.bk.mixed (n := 1000000) (by kernel_rfl) (by kernel_rfl))
theorem eWn_ok (K W : Int) : EntOk Tryz.prog (eWn K W) := entC_ok (by
  intro a rows p v news h hp
  split at h
  · rename_i n lo hi
    cases hb : decide (lo = 1) with
    | true =>
      rw [hb] at h
      simp only [cond_true, Option.some.injEq, Prod.mk.injEq] at h
      obtain ⟨rfl, rfl, rfl⟩ := h
      obtain ⟨rfl, rfl, rfl, h4⟩ := hp
      exact within_con n 1 9 h4 (by decide) (by decide) (by decide)
    | false =>
      rw [hb] at h
      simp only [cond_false, Option.some.injEq, Prod.mk.injEq] at h
      obtain ⟨rfl, rfl, rfl⟩ := h
      obtain ⟨rfl, rfl, rfl, h4⟩ := hp
      exact within_con n 0 20 h4 (by decide) (by decide) (by decide)
  · simp at h)
theorem b_all : ∀ k : Nat, 1 ≤ k → k ≤ 9 → tB k = True
  | 0, h, _ => absurd h (by omega)
  | 1, _, _ => b1
  | 2, _, _ => b2
  | 3, _, _ => b3
  | 4, _, _ => b4
  | 5, _, _ => b5
  | 6, _, _ => b6
  | 7, _, _ => b7
  | 8, _, _ => b8
  | 9, _, _ => b9
  | n + 10, _, h => absurd h (by omega)
theorem f_all : ∀ k : Nat, 1 ≤ k → k ≤ 9 → ∀ i, i < 20 → tF k i = True
  | 0, h, _ => absurd h (by omega)
  | 1, _, _ => f1
  | 2, _, _ => f2
  | 3, _, _ => f3
  | 4, _, _ => f4
  | 5, _, _ => f5
  | 6, _, _ => f6
  | 7, _, _ => f7
  | 8, _, _ => f8
  | 9, _, _ => f9
  | n + 10, _, h => absurd h (by omega)
theorem r_all (a o : Int) : ∀ k : Nat, 1 ≤ k → k ≤ 9 → ∀ n, n ≤ 20 → mlF k n a o = cdR k n a o
  | 0, h, _ => absurd h (by omega)
  | 1, _, _ => r1 a o
  | 2, _, _ => r2 a o
  | 3, _, _ => r3 a o
  | 4, _, _ => r4 a o
  | 5, _, _ => r5 a o
  | 6, _, _ => r6 a o
  | 7, _, _ => r7 a o
  | 8, _, _ => r8 a o
  | 9, _, _ => r9 a o
  | n + 10, _, h => absurd h (by omega)
theorem e_bg_ok (k : Nat) (h : tB k = True) : CEnt.Ok Tryz.prog (e_bgF k) := Go.Proofs.YtcallecdjebojaaGreat.ck.conB (E := EBg) (n := 5000) (by kernel_rfl) (calls_envTl no_calls all_nil) (lok_envTl _ _ _) h trivial rfl
theorem out_no (k i : Nat) : noMark (outF k i).1 = true := by
  unfold outF
  cases Nat.blt i k <;> rfl
theorem e_f_ok (k i : Nat) (h : tF k i = True) : CEnt.Ok Tryz.prog (e_fF k i) := Go.Proofs.YtcallecdjebojaaGreat.ck.conB (E := EBg) (n := 5000) (by kernel_rfl) (calls_envTl no_calls all_nil) (lok_envTl _ _ _) h trivial (out_no k i)
def rsB (k : Nat) : Nat → List UInt8
  | 0 => []
  | r + 1 => rsB k r ++ [0, 0, 4, 3, 0, 0, 0, 0, UInt8.ofNat (2 * (k + r) + 1), 0, 0, 0, 7]
theorem rs_c (k : Nat) : ∀ r, k + r ≤ 30 → rsF k r = bCells (rsB k r)
  | 0, _ => rfl
  | r + 1, h => by
    unfold rsF rsB
    rw [rs_c k r (by omega), ← bCells_app]
    have e : (UInt8.ofNat (2 * (k + r) + 1)).toNat = 2 * (k + r) + 1 := by rw [UInt8.toNat_ofNat']; omega
    refine congrArg _ ?_
    show [u8 0, u8 0, u8 4, u8 3, u8 0, u8 0, u8 0, u8 0, u8 (2 * (k + r) + 1), u8 0, u8 0, u8 0, u8 7] = [bVal 0, bVal 0, bVal 4, bVal 3, bVal 0, bVal 0, bVal 0, bVal 0, bVal (UInt8.ofNat (2 * (k + r) + 1)), bVal 0, bVal 0, bVal 0, bVal 7]
    have e2 : bVal (UInt8.ofNat (2 * (k + r) + 1)) = u8 (2 * (k + r) + 1) := by unfold bVal u8; rw [e]; rfl
    rw [e2]; rfl
theorem rs_len (k : Nat) : ∀ r, (rsB k r).length = 13 * r
  | 0 => rfl
  | r + 1 => by unfold rsB; rw [List.length_append, rs_len k r]; simp only [List.length_cons, List.length_nil]; omega
theorem e_s_ok (k r : Nat) (h : k + r ≤ 30) : CEnt.Ok Tryz.prog (e_sF k r) := by
  have hc := Go.Proofs.YtcallecdjebojaaGreat.bk.same_con (rsB k r) (rsB k r) (by rw [rs_len]; unfold maxLen; omega)
  rw [rs_len, decide_eq_true rfl] at hc
  have := hc.m rfl
  unfold CEnt.Ok e_sF
  simp only
  rw [rs_c k r h]
  exact this
theorem lf_ok (k : Nat) (h1 : 1 ≤ k) (h9 : k ≤ 9) : ∀ n, n ≤ 20 → ∀ x ∈ LF k n, CEnt.Ok Tryz.prog x
  | 0, _ => fun x hx => by
    rw [LF, List.mem_singleton] at hx
    rw [hx]; exact e_bg_ok k (b_all k h1 h9)
  | n + 1, hn => fun x hx => by
    rw [LF] at hx
    rcases List.mem_append.1 hx with hx | hx
    · exact lf_ok k h1 h9 n (by omega) x hx
    · rw [List.mem_singleton] at hx
      rw [hx]; exact e_f_ok k n (f_all k h1 h9 n (by omega))
theorem lg_ok (k n : Nat) (h1 : 1 ≤ k) (h9 : k ≤ 9) (hn : n ≤ 20) : ∀ x ∈ LG k n, CEnt.Ok Tryz.prog x := by
  intro x hx
  unfold LG at hx
  cases hb : Nat.ble n k with
  | true => rw [hb] at hx; exact lf_ok k h1 h9 n hn x hx
  | false =>
    rw [hb] at hx
    rcases List.mem_append.1 hx with hx | hx
    · exact lf_ok k h1 h9 n hn x hx
    · rw [List.mem_singleton] at hx
      rw [hx]; exact e_s_ok k _ (by omega)
theorem cf_law (a o : Int) (ha : I64 a) (ho : I64 o) : Con Tryz.prog 8 [.int .i64 a, .int .i64 o] [] (.bool true) [] := by
  obtain ⟨k1, k2⟩ := inside_in a 1 9 (by decide)
  obtain ⟨n1, n2⟩ := inside_in o 0 20 (by decide)
  obtain ⟨k, hk⟩ : ∃ k : Nat, inside a 1 9 = Int.ofNat k := ⟨(inside a 1 9).toNat, by simp only [Int.ofNat_eq_natCast]; omega⟩
  obtain ⟨n, hn⟩ : ∃ n : Nat, inside o 0 20 = Int.ofNat n := ⟨(inside o 0 20).toNat, by simp only [Int.ofNat_eq_natCast]; omega⟩
  rw [hk] at k1 k2
  rw [hn] at n1 n2
  simp only [Int.ofNat_eq_natCast] at k1 k2 n1 n2
  have hr := r_all a o k (by omega) (by omega) n (by omega)
  refine con_vc (E := EF k n) (rows := []) (rows' := []) (n := 5000) Go.Proofs.YtcallecdjebojaaGreat.bk.mixed (calls_envTo (oC_ok (lg_ok k n (by omega) (by omega) (by omega)) no_calls) (all_cons (eWn_ok _ _) (all_cons eRunsF_ok all_nil))) (lok_envTo _ _ _) (M := noM) lm_none hr ?_
  unfold cdR
  simp only [hk, hn, true_and, and_true]
  exact ⟨ha, ho⟩
end Go.Proofs.YtcallecdjebojaaGreat.cf
