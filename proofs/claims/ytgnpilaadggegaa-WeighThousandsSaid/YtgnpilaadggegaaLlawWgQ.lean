/- The laws: any text as a preference; the thousand preferences. -/
import Derived.Test.YtgnpilaadggegaaSz9
import Derived.Test.YtgnpilaadggegaaRows
import Derived.Test.YtgnpilaadggegaaLwgQ
set_option linter.unusedSimpArgs false
set_option linter.unusedVariables false
namespace Go.Proofs.Ytgnpilaadggegaa.fl
open Go Go.Ev Go.Sy Go.RowKit
noncomputable def eQ : EntM := entC 12 fun a r => match a, r with
  | [.string s], [] => some (s.data.toList.length ≤ maxLen, .tuple #[.float .f64 (qxS s), .bool (qoS s)], [])
  | _, _ => none
noncomputable def eRq : EntM := entC 25 fun a r => match a, r with
  | [.string s], [] => some (s.data.toList.length ≤ maxLen, .tuple #[.float .f64 (qxS s), .bool (qoS s)], [])
  | _, _ => none
def tB (k : Nat) : List UInt8 := [48, 46, UInt8.ofNat (48 + k / 100), UInt8.ofNat (48 + k / 10 % 10), UInt8.ofNat (48 + k % 10)]
def qw (k : Nat) : Nat := (fA .quo .f64 (FloatKind.f64.nearest (k : Int)) (FloatKind.f64.nearest 1000)).getD 0
def upB (k : Nat) : Bool := (FloatKind.f64.format.order (qw k) (qw k) == some .eq) && (FloatKind.f64.format.order (qw k) (qw (k + 1)) == some .lt)
noncomputable def tQ : List EntM := [eWi, eRuns, eCk, eRck, eQ, eRq]
noncomputable abbrev EtQ : Env := envT Try.prog tQ
theorem Reads_vc (s : ByteArray) : mcall EtQ noM 60 5 [.string s] ⟨mkR (nums 0 []), 0⟩ (retIs 0 (.bool true) []) =
  ((((True ∧ True) ∧ (True ∧ (True ∧ List.length (Array.toList (ByteArray.data s)) ≤ (9223372036854775807 : Nat))))) ∧
  ((((True ∧ True) ∧ (True ∧ (True ∧ List.length (Array.toList (ByteArray.data s)) ≤ (9223372036854775807 : Nat))))) ∧
  ((((True ∧ (True ∧ True)) ∧ (True ∧ (True ∧ True)))) ∧
  (br (ck (qxS s) (qxS s) == (0 : Int))
   (br (qoS s == qoS s)
    (((True ∧ (True ∧ (True ∧ True)))) ∧
    ((true = true) ∧
    True))
    ((true = false) ∧
    True))
   ((true = false) ∧
   True))))) := by kernel_rfl
theorem Thou_vc (n : Int) : mcall EtQ noM 60 9 [.int .i64 n] ⟨mkR (nums 0 []), 0⟩ (retIs 0 (.bool true) []) =
  ((((True ∧ (True ∧ (True ∧ True))) ∧ (True ∧ (True ∧ (I64 n ∧ ((-1000000000000 : Int) ≤ (0 : Int) ∧ ((999 : Int) ≤ (1000000000000 : Int) ∧ (0 : Int) ≤ (999 : Int)))))))) ∧
  ((((True ∧ True) ∧ (True ∧ (True ∧ (5 : Nat) ≤ (9223372036854775807 : Nat))))) ∧
  ((((True ∧ True) ∧ (True ∧ (True ∧ (6 : Nat) ≤ (9223372036854775807 : Nat))))) ∧
  (br (decide (IntKind.wrap IntKind.i64 (tk.inside n (0 : Int) (999 : Int) + (1 : Int)) < (1000 : Int)))
   ((((True ∧ True) ∧ (True ∧ (True ∧ (5 : Nat) ≤ (9223372036854775807 : Nat))))) ∧
   (br (qoS (ByteArray.mk #[(48 : UInt8), (46 : UInt8)] ++ ByteArray.mk (Array.mk [UInt8.ofNat (Int.toNat (IntKind.wrap IntKind.u8 (IntKind.wrap IntKind.i64 ((48 : Int) + IntKind.wrap IntKind.i64 (Int.tdiv (tk.inside n (0 : Int) (999 : Int)) (100 : Int)))))), UInt8.ofNat (Int.toNat (IntKind.wrap IntKind.u8 (IntKind.wrap IntKind.i64 ((48 : Int) + Int.tmod (IntKind.wrap IntKind.i64 (Int.tdiv (tk.inside n (0 : Int) (999 : Int)) (10 : Int))) (10 : Int))))), UInt8.ofNat (Int.toNat (IntKind.wrap IntKind.u8 (IntKind.wrap IntKind.i64 ((48 : Int) + Int.tmod (tk.inside n (0 : Int) (999 : Int)) (10 : Int)))))])))
    (br (qoS (ByteArray.mk #[(48 : UInt8), (46 : UInt8)] ++ ByteArray.mk (Array.mk [UInt8.ofNat (Int.toNat (IntKind.wrap IntKind.u8 (IntKind.wrap IntKind.i64 ((48 : Int) + IntKind.wrap IntKind.i64 (Int.tdiv (IntKind.wrap IntKind.i64 (tk.inside n (0 : Int) (999 : Int) + (1 : Int))) (100 : Int)))))), UInt8.ofNat (Int.toNat (IntKind.wrap IntKind.u8 (IntKind.wrap IntKind.i64 ((48 : Int) + Int.tmod (IntKind.wrap IntKind.i64 (Int.tdiv (IntKind.wrap IntKind.i64 (tk.inside n (0 : Int) (999 : Int) + (1 : Int))) (10 : Int))) (10 : Int))))), UInt8.ofNat (Int.toNat (IntKind.wrap IntKind.u8 (IntKind.wrap IntKind.i64 ((48 : Int) + Int.tmod (IntKind.wrap IntKind.i64 (tk.inside n (0 : Int) (999 : Int) + (1 : Int))) (10 : Int)))))])))
     (br (!qoS (ByteArray.mk #[(48 : UInt8), (46 : UInt8)] ++ ByteArray.mk (Array.mk [UInt8.ofNat (Int.toNat (IntKind.wrap IntKind.u8 (IntKind.wrap IntKind.i64 ((48 : Int) + IntKind.wrap IntKind.i64 (Int.tdiv (tk.inside n (0 : Int) (999 : Int)) (100 : Int)))))), UInt8.ofNat (Int.toNat (IntKind.wrap IntKind.u8 (IntKind.wrap IntKind.i64 ((48 : Int) + Int.tmod (IntKind.wrap IntKind.i64 (Int.tdiv (tk.inside n (0 : Int) (999 : Int)) (10 : Int))) (10 : Int))))), UInt8.ofNat (Int.toNat (IntKind.wrap IntKind.u8 (IntKind.wrap IntKind.i64 ((48 : Int) + Int.tmod (tk.inside n (0 : Int) (999 : Int)) (10 : Int)))))]) ++ ByteArray.mk #[(48 : UInt8)]))
      (∃ r : Nat, ((Eq (α := Option Nat) (fA BinOp.quo FloatKind.f64 (FloatKind.nearest FloatKind.f64 (tk.inside n (0 : Int) (999 : Int))) (4652007308841189376 : Nat)) (some r)) ∧
      (br (Ieee.Format.order (FloatKind.format FloatKind.f64) (qxS (ByteArray.mk #[(48 : UInt8), (46 : UInt8)] ++ ByteArray.mk #[UInt8.ofNat (Int.toNat (IntKind.wrap IntKind.u8 (IntKind.wrap IntKind.i64 ((48 : Int) + IntKind.wrap IntKind.i64 (Int.tdiv (tk.inside n (0 : Int) (999 : Int)) (100 : Int)))))), UInt8.ofNat (Int.toNat (IntKind.wrap IntKind.u8 (IntKind.wrap IntKind.i64 ((48 : Int) + Int.tmod (IntKind.wrap IntKind.i64 (Int.tdiv (tk.inside n (0 : Int) (999 : Int)) (10 : Int))) (10 : Int))))), UInt8.ofNat (Int.toNat (IntKind.wrap IntKind.u8 (IntKind.wrap IntKind.i64 ((48 : Int) + Int.tmod (tk.inside n (0 : Int) (999 : Int)) (10 : Int)))))])) r == some Ordering.eq)
       (br (Ieee.Format.order (FloatKind.format FloatKind.f64) (qxS (ByteArray.mk #[(48 : UInt8), (46 : UInt8)] ++ ByteArray.mk #[UInt8.ofNat (Int.toNat (IntKind.wrap IntKind.u8 (IntKind.wrap IntKind.i64 ((48 : Int) + IntKind.wrap IntKind.i64 (Int.tdiv (tk.inside n (0 : Int) (999 : Int)) (100 : Int)))))), UInt8.ofNat (Int.toNat (IntKind.wrap IntKind.u8 (IntKind.wrap IntKind.i64 ((48 : Int) + Int.tmod (IntKind.wrap IntKind.i64 (Int.tdiv (tk.inside n (0 : Int) (999 : Int)) (10 : Int))) (10 : Int))))), UInt8.ofNat (Int.toNat (IntKind.wrap IntKind.u8 (IntKind.wrap IntKind.i64 ((48 : Int) + Int.tmod (tk.inside n (0 : Int) (999 : Int)) (10 : Int)))))])) (qxS (ByteArray.mk #[(48 : UInt8), (46 : UInt8)] ++ ByteArray.mk #[UInt8.ofNat (Int.toNat (IntKind.wrap IntKind.u8 (IntKind.wrap IntKind.i64 ((48 : Int) + IntKind.wrap IntKind.i64 (Int.tdiv (IntKind.wrap IntKind.i64 (tk.inside n (0 : Int) (999 : Int) + (1 : Int))) (100 : Int)))))), UInt8.ofNat (Int.toNat (IntKind.wrap IntKind.u8 (IntKind.wrap IntKind.i64 ((48 : Int) + Int.tmod (IntKind.wrap IntKind.i64 (Int.tdiv (IntKind.wrap IntKind.i64 (tk.inside n (0 : Int) (999 : Int) + (1 : Int))) (10 : Int))) (10 : Int))))), UInt8.ofNat (Int.toNat (IntKind.wrap IntKind.u8 (IntKind.wrap IntKind.i64 ((48 : Int) + Int.tmod (IntKind.wrap IntKind.i64 (tk.inside n (0 : Int) (999 : Int) + (1 : Int))) (10 : Int)))))])) == some Ordering.lt)
        (((True ∧ (True ∧ (True ∧ True)))) ∧
        ((true = true) ∧
        True))
        ((true = false) ∧
        True))
       ((true = false) ∧
       True))))
      ((true = false) ∧
      True))
     ((true = false) ∧
     True))
    ((true = false) ∧
    True)))
   ((((True ∧ True) ∧ (True ∧ (True ∧ List.length (Array.toList (ByteArray.data (ByteArray.mk #[(49 : UInt8), (46 : UInt8), (48 : UInt8), (48 : UInt8), (48 : UInt8)]))) ≤ maxLen)))) ∧
   (br (qoS (ByteArray.mk #[(48 : UInt8), (46 : UInt8)] ++ ByteArray.mk (Array.mk [UInt8.ofNat (Int.toNat (IntKind.wrap IntKind.u8 (IntKind.wrap IntKind.i64 ((48 : Int) + IntKind.wrap IntKind.i64 (Int.tdiv (tk.inside n (0 : Int) (999 : Int)) (100 : Int)))))), UInt8.ofNat (Int.toNat (IntKind.wrap IntKind.u8 (IntKind.wrap IntKind.i64 ((48 : Int) + Int.tmod (IntKind.wrap IntKind.i64 (Int.tdiv (tk.inside n (0 : Int) (999 : Int)) (10 : Int))) (10 : Int))))), UInt8.ofNat (Int.toNat (IntKind.wrap IntKind.u8 (IntKind.wrap IntKind.i64 ((48 : Int) + Int.tmod (tk.inside n (0 : Int) (999 : Int)) (10 : Int)))))])))
    (br ((Classical.indefiniteDescription (fun x ↦ x = qOk (Array.toList (ByteArray.data (ByteArray.mk #[(49 : UInt8), (46 : UInt8), (48 : UInt8), (48 : UInt8), (48 : UInt8)])))) (qo_ex (ByteArray.mk #[(49 : UInt8), (46 : UInt8), (48 : UInt8), (48 : UInt8), (48 : UInt8)]))).1)
     (br (!qoS (ByteArray.mk #[(48 : UInt8), (46 : UInt8)] ++ ByteArray.mk (Array.mk [UInt8.ofNat (Int.toNat (IntKind.wrap IntKind.u8 (IntKind.wrap IntKind.i64 ((48 : Int) + IntKind.wrap IntKind.i64 (Int.tdiv (tk.inside n (0 : Int) (999 : Int)) (100 : Int)))))), UInt8.ofNat (Int.toNat (IntKind.wrap IntKind.u8 (IntKind.wrap IntKind.i64 ((48 : Int) + Int.tmod (IntKind.wrap IntKind.i64 (Int.tdiv (tk.inside n (0 : Int) (999 : Int)) (10 : Int))) (10 : Int))))), UInt8.ofNat (Int.toNat (IntKind.wrap IntKind.u8 (IntKind.wrap IntKind.i64 ((48 : Int) + Int.tmod (tk.inside n (0 : Int) (999 : Int)) (10 : Int)))))]) ++ ByteArray.mk #[(48 : UInt8)]))
      (∃ r : Nat, ((Eq (α := Option Nat) (fA BinOp.quo FloatKind.f64 (FloatKind.nearest FloatKind.f64 (tk.inside n (0 : Int) (999 : Int))) (4652007308841189376 : Nat)) (some r)) ∧
      (br (Ieee.Format.order (FloatKind.format FloatKind.f64) (qxS (ByteArray.mk #[(48 : UInt8), (46 : UInt8)] ++ ByteArray.mk #[UInt8.ofNat (Int.toNat (IntKind.wrap IntKind.u8 (IntKind.wrap IntKind.i64 ((48 : Int) + IntKind.wrap IntKind.i64 (Int.tdiv (tk.inside n (0 : Int) (999 : Int)) (100 : Int)))))), UInt8.ofNat (Int.toNat (IntKind.wrap IntKind.u8 (IntKind.wrap IntKind.i64 ((48 : Int) + Int.tmod (IntKind.wrap IntKind.i64 (Int.tdiv (tk.inside n (0 : Int) (999 : Int)) (10 : Int))) (10 : Int))))), UInt8.ofNat (Int.toNat (IntKind.wrap IntKind.u8 (IntKind.wrap IntKind.i64 ((48 : Int) + Int.tmod (tk.inside n (0 : Int) (999 : Int)) (10 : Int)))))])) r == some Ordering.eq)
       (br (Ieee.Format.order (FloatKind.format FloatKind.f64) (qxS (ByteArray.mk #[(48 : UInt8), (46 : UInt8)] ++ ByteArray.mk #[UInt8.ofNat (Int.toNat (IntKind.wrap IntKind.u8 (IntKind.wrap IntKind.i64 ((48 : Int) + IntKind.wrap IntKind.i64 (Int.tdiv (tk.inside n (0 : Int) (999 : Int)) (100 : Int)))))), UInt8.ofNat (Int.toNat (IntKind.wrap IntKind.u8 (IntKind.wrap IntKind.i64 ((48 : Int) + Int.tmod (IntKind.wrap IntKind.i64 (Int.tdiv (tk.inside n (0 : Int) (999 : Int)) (10 : Int))) (10 : Int))))), UInt8.ofNat (Int.toNat (IntKind.wrap IntKind.u8 (IntKind.wrap IntKind.i64 ((48 : Int) + Int.tmod (tk.inside n (0 : Int) (999 : Int)) (10 : Int)))))])) (qxS (ByteArray.mk #[(49 : UInt8), (46 : UInt8), (48 : UInt8), (48 : UInt8), (48 : UInt8)])) == some Ordering.lt)
        (((True ∧ (True ∧ (True ∧ True)))) ∧
        ((true = true) ∧
        True))
        ((true = false) ∧
        True))
       ((true = false) ∧
       True))))
      ((true = false) ∧
      True))
     ((true = false) ∧
     True))
    ((true = false) ∧
    True))))))) := by kernel_rfl
theorem eQ_ok : EntOk Try.prog eQ := entC_ok (by
  intro a rows p v news h hp
  split at h <;> simp only [Option.some.injEq, Prod.mk.injEq, reduceCtorEq] at h
  obtain ⟨rfl, rfl, rfl⟩ := h
  exact q_con _ hp)
theorem eRq_ok : EntOk Try.prog eRq := entC_ok (by
  intro a rows p v news h hp
  split at h <;> simp only [Option.some.injEq, Prod.mk.injEq, reduceCtorEq] at h
  obtain ⟨rfl, rfl, rfl⟩ := h
  exact r_con _ hp)
theorem tQ_ok : ∀ x ∈ tQ, EntOk Try.prog x := all_cons eWi_ok (all_cons eRuns_ok (all_cons eCk_ok (all_cons eRck_ok (all_cons eQ_ok (all_cons eRq_ok (all_nil))))))
theorem up_all : (List.range 1000).all upB = true := by kernel_rfl
theorem ofN (n : Nat) (h : n < 256) : (UInt8.ofNat n).toNat = n := by simp; omega
theorem tB_ok (k : Nat) (h : k < 1000) : qOk (tB k) = true ∧ qX (tB k) = qw k := by
  have c1 := ofN (48 + k / 100) (by omega)
  have c2 := ofN (48 + k / 10 % 10) (by omega)
  have c3 := ofN (48 + k % 10) (by omega)
  have e : qN (tB k) = (k : Int) := by
    have e0 : qN (tB k) = ((((((48 : UInt8).toNat : Nat) : Int) - 48) * 10 + ((((UInt8.ofNat (48 + k / 100)).toNat : Nat) : Int) - 48)) * 10 + ((((UInt8.ofNat (48 + k / 10 % 10)).toNat : Nat) : Int) - 48)) * 10 + ((((UInt8.ofNat (48 + k % 10)).toNat : Nat) : Int) - 48) := rfl
    rw [e0, c1, c2, c3]
    have : (48 : UInt8).toNat = 48 := rfl
    rw [this]
    omega
  have es : qS (tB k) = 1000 := rfl
  have hok : qOk (tB k) = true := by
    have := ok5 48 46 (UInt8.ofNat (48 + k / 100)) (UInt8.ofNat (48 + k / 10 % 10)) (UInt8.ofNat (48 + k % 10))
    unfold tB
    rw [this]
    refine decide_eq_true ⟨.inl rfl, rfl, by omega, by omega, by omega, ?_⟩
    show qN (tB k) ≤ qS (tB k)
    rw [e, es]; omega
  refine ⟨hok, ?_⟩
  unfold qX
  rw [hok, e, es]; rfl
theorem d_eq (k : Nat) (h : k < 1000) : (IntKind.u8.wrap (IntKind.i64.wrap (48 + IntKind.i64.wrap ((k : Int).tdiv 100)))).toNat = 48 + k / 100 ∧ (IntKind.u8.wrap (IntKind.i64.wrap (48 + (IntKind.i64.wrap ((k : Int).tdiv 10)).tmod 10))).toNat = 48 + k / 10 % 10 ∧ (IntKind.u8.wrap (IntKind.i64.wrap (48 + (k : Int).tmod 10))).toNat = 48 + k % 10 := by
  have e1 : (k : Int).tdiv 100 = ((k / 100 : Nat) : Int) := rfl
  have e2 : (k : Int).tdiv 10 = ((k / 10 : Nat) : Int) := rfl
  have e3 : (k : Int).tmod 10 = ((k % 10 : Nat) : Int) := rfl
  have e4 : ((k / 10 : Nat) : Int).tmod 10 = ((k / 10 % 10 : Nat) : Int) := rfl
  rw [e1, e2, e3]
  rw [wr64_id (n := ((k / 100 : Nat) : Int)) (by unfold I64; omega), wr64_id (n := ((k / 10 : Nat) : Int)) (by unfold I64; omega), e4]
  rw [wr64_id (by unfold I64; omega), wr64_id (by unfold I64; omega), wr64_id (by unfold I64; omega), wru8, wru8, wru8]
  omega
theorem reads_law (s : ByteArray) (hs : s.size ≤ maxLen) : Con Try.prog 5 [.string s] [] (.bool true) [] := by
  refine con_vc (E := EtQ) mixed (calls_envT tQ_ok) (lok_envT _ _) (M := noM) lm_none (Reads_vc s) ?_
  have hm : maxLen = 9223372036854775807 := by unfold maxLen; rfl
  simp only [ofNat_eq, toNat_cast, Nat.zero_add, Nat.add_zero, Nat.mul_one, List.drop_zero, bCells_len, bCells_drop, bCells_take, bCells_app, bCells_one, bCells_plain, List.length_replicate, List.length_append, List.length_take, List.length_drop, List.take_length, and_true, true_and, and_self, decide_true, List.length_nil, List.length_cons, Nat.sub_zero, dB_mk, dB_ro, List.take_zero]
  have e : s.data.toList.length = s.size := by rw [Array.length_toList]; rfl
  rw [ck_self, e]
  exact ⟨by omega, by omega, br_b rfl (br_b (by simp) trivial)⟩
set_option maxRecDepth 20000 in
theorem thou_law (n : Int) (hn : I64 n) : Con Try.prog 9 [.int .i64 n] [] (.bool true) [] := by
  refine con_vc (E := EtQ) mixed (calls_envT tQ_ok) (lok_envT _ _) (M := noM) lm_none (Thou_vc n) ?_
  have hm : maxLen = 9223372036854775807 := by unfold maxLen; rfl
  simp only [ofNat_eq, toNat_cast, Nat.zero_add, Nat.add_zero, Nat.mul_one, List.drop_zero, bCells_len, bCells_drop, bCells_take, bCells_app, bCells_one, bCells_plain, List.length_replicate, List.length_append, List.length_take, List.length_drop, List.take_length, and_true, true_and, and_self, decide_true, List.length_nil, List.length_cons, Nat.sub_zero, dB_mk, dB_ro, List.take_zero]
  have hk : 0 ≤ tk.inside n 0 999 ∧ tk.inside n 0 999 ≤ 999 := Go.Proofs.Ytgnpilaadggegaa.tk.inside_in _ _ _ (by omega)
  generalize tk.inside n 0 999 = K at *
  obtain ⟨k, rfl⟩ : ∃ k : Nat, K = (k : Int) := ⟨K.toNat, by omega⟩
  have w1 : IntKind.i64.wrap ((k : Int) + 1) = ((k + 1 : Nat) : Int) := by rw [wr64_id (by unfold I64; omega)]; omega
  have a1 : ∀ a b c : UInt8, (⟨#[48, 46]⟩ : ByteArray) ++ ⟨⟨[a, b, c]⟩⟩ = tk.bs [48, 46, a, b, c] := fun a b c => tk.bs_app [48, 46] [a, b, c]
  have a2 : ∀ a b c : UInt8, (⟨#[48, 46]⟩ : ByteArray) ++ ⟨#[a, b, c]⟩ = tk.bs [48, 46, a, b, c] := fun a b c => tk.bs_app [48, 46] [a, b, c]
  have a3 : ∀ a b c : UInt8, tk.bs [48, 46, a, b, c] ++ ⟨#[48]⟩ = tk.bs [48, 46, a, b, c, 48] := fun a b c => tk.bs_app [48, 46, a, b, c] [48]
  obtain ⟨q1, q2, q3⟩ := d_eq k (by omega)
  have u := List.all_eq_true.1 up_all k (List.mem_range.2 (by omega))
  unfold upB at u
  rw [Bool.and_eq_true] at u
  obtain ⟨u1, u2⟩ := u
  have g1 : qoS (tk.bs (tB k)) = true := by rw [qoS_eq]; exact (tB_ok k (by omega)).1
  have g2 : qoS (tk.bs (tB k ++ [48])) = false := by
    rw [qoS_eq]
    show qOk (tB k ++ [48]) = false
    unfold qOk tB
    simp
  have g3 : qxS (tk.bs (tB k)) = qw k := by rw [qxS_eq]; exact (tB_ok k (by omega)).2
  have g4 : fA .quo .f64 (FloatKind.f64.nearest (k : Int)) 4652007308841189376 = some (qw k) := by
    have := q_ex (k : Int) 1000 (by omega) (by omega) (by omega) (by omega)
    rw [n1000] at this
    unfold qw
    rw [n1000]
    exact this
  have f : ∀ k : Nat, tk.bs [48, 46, UInt8.ofNat (48 + k / 100), UInt8.ofNat (48 + k / 10 % 10), UInt8.ofNat (48 + k % 10)] = tk.bs (tB k) := fun k => rfl
  have f2 : tk.bs [48, 46, UInt8.ofNat (48 + k / 100), UInt8.ofNat (48 + k / 10 % 10), UInt8.ofNat (48 + k % 10), 48] = tk.bs (tB k ++ [48]) := rfl
  have f3 : tk.bs (tB k) ++ ⟨#[48]⟩ = tk.bs (tB k ++ [48]) := tk.bs_app _ _
  simp only [w1, q1, q2, q3, a1, a2, a3, f, f2, f3, g1, g2, g3]
  refine ⟨⟨hn, by omega, by omega, by omega⟩, by omega, by omega, ?_⟩
  refine br_intro (fun h => ?_) (fun h => ?_)
  · have h := of_decide_eq_true h
    obtain ⟨p1, p2, p3⟩ := d_eq (k + 1) (by omega)
    have h1 : qoS (tk.bs (tB (k + 1))) = true := by rw [qoS_eq]; exact (tB_ok (k + 1) (by omega)).1
    have h3 : qxS (tk.bs (tB (k + 1))) = qw (k + 1) := by rw [qxS_eq]; exact (tB_ok (k + 1) (by omega)).2
    simp only [p1, p2, p3, a1, a2, f, h1, h3]
    exact ⟨by omega, br_b rfl (br_b rfl (br_b rfl ⟨_, g4, br_b u1 (br_b u2 trivial)⟩))⟩
  · have h := of_decide_eq_false h
    have e : k = 999 := by omega
    subst e
    have h1 : qoS (tk.bs [49, 46, 48, 48, 48]) = true := by rw [qoS_eq]; decide
    have h3 : qxS (⟨#[49, 46, 48, 48, 48]⟩ : ByteArray) = qw 1000 := by
      rw [qxS_eq]
      show qX [49, 46, 48, 48, 48] = qw 1000
      unfold qX
      have e1 : qOk [49, 46, 48, 48, 48] = true := by decide
      have e2 : qN [49, 46, 48, 48, 48] = 1000 := by decide
      have e3 : qS [49, 46, 48, 48, 48] = 1000 := by decide
      rw [e1, e2, e3]; rfl
    refine ⟨by omega, br_b rfl (br_b h1 (br_b rfl ⟨_, g4, br_b u1 ?_⟩))⟩
    rw [h3]
    exact br_b u2 trivial
end Go.Proofs.Ytgnpilaadggegaa.fl
