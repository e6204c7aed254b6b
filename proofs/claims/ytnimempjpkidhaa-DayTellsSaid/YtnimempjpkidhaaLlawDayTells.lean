/- The law: any text as a date, any number shown. -/
import Derived.Test.YtnimempjpkidhaaSz9
import Derived.Test.YtnimempjpkidhaaRows
import Derived.Test.YtnimempjpkidhaaLrtDay
set_option linter.unusedSimpArgs false
set_option linter.unusedVariables false
namespace Go.Proofs.Ytnimempjpkidhaa.tk
open Go Go.Ev Go.Sy Go.RowKit Go.Proofs.Ytnimempjpkidhaa.gl
def cDz : FuncId → List Value → List Row → Option (Prop × Value × List Row)
  | 9, [.string s], [] => some ((L s).length ≤ maxLen, .tuple #[.int .i64 (rdI s), .bool (rdB s)], [])
  | 10, [.int .i64 n], [] => some (True, .string (shS n), [])
  | 11, [.string s], [] => some ((L s).length ≤ maxLen, .tuple #[.int .i64 (rdI s), .bool (rdB s)], [])
  | 12, [.int .i64 n], [] => some (True, .string (shS n), [])
  | 3, [], [] => some (True, .bool true, [])
  | _, _, _ => none
def kDz (f : FuncId) : Bool := Nat.beq f 9 || Nat.beq f 10 || Nat.beq f 11 || Nat.beq f 12 || Nat.beq f 3
noncomputable abbrev EDz : Env := envC Try.prog cDz kDz
theorem dz_vc (s : List UInt8) (n : Int) : mcall EDz noM 60 4 [.string (bs s), .int .i64 n] ⟨mkR (nums 0 []), 0⟩ (retIs 0 (.bool true) []) =
  (br (decide (Int.ofNat (List.length (Array.toList (ByteArray.data (bs s)))) > (200 : Int)))
   (br (decide ((0 : Int) ≤ (↑(0 : Nat) : Int) ∧ (↑(0 : Nat) : Int) ≤ (200 : Int) ∧ (200 : Int) ≤ (↑(List.length (Array.toList (ByteArray.data (bs s)))) : Int)))
    ((((True ∧ True) ∧ (True ∧ List.length (L (sub (bs s) (0 : Nat) (200 : Nat))) ≤ (9223372036854775807 : Nat)))) ∧
    ((((True ∧ True) ∧ (True ∧ List.length (L (sub (bs s) (0 : Nat) (200 : Nat))) ≤ (9223372036854775807 : Nat)))) ∧
    (br (rdI (sub (bs s) (0 : Nat) (200 : Nat)) == rdI (sub (bs s) (0 : Nat) (200 : Nat)))
     (br (rdB (sub (bs s) (0 : Nat) (200 : Nat)) == rdB (sub (bs s) (0 : Nat) (200 : Nat)))
      ((((True ∧ True) ∧ (True ∧ True))) ∧
      ((((True ∧ True) ∧ (True ∧ True))) ∧
      (br (strEq (shS n) (shS n))
       (((True ∧ (True ∧ True))) ∧
       ((true = true) ∧
       True))
       ((true = false) ∧
       True))))
      ((true = false) ∧
      True))
     ((true = false) ∧
     True))))
    False)
   ((((True ∧ True) ∧ (True ∧ List.length (L (bs s)) ≤ (9223372036854775807 : Nat)))) ∧
   ((((True ∧ True) ∧ (True ∧ List.length (L (bs s)) ≤ (9223372036854775807 : Nat)))) ∧
   (br (rdI (bs s) == rdI (bs s))
    (br (rdB (bs s) == rdB (bs s))
     ((((True ∧ True) ∧ (True ∧ True))) ∧
     ((((True ∧ True) ∧ (True ∧ True))) ∧
     (br (strEq (shS n) (shS n))
      (((True ∧ (True ∧ True))) ∧
      ((true = true) ∧
      True))
      ((true = false) ∧
      True))))
     ((true = false) ∧
     True))
    ((true = false) ∧
    True))))) := by kernel_rfl
theorem cDz_ok : ∀ f a rows p v news, cDz f a rows = some (p, v, news) → p → Con Try.prog f a rows v (rows ++ news) := by
  intro f a rows p v news h hp
  unfold cDz at h
  split at h <;> simp only [Option.some.injEq, Prod.mk.injEq, reduceCtorEq] at h <;> obtain ⟨rfl, rfl, rfl⟩ := h
  · exact Rd_con (L _) hp
  · exact Sh_con2 _
  · exact rrd_con (L _) hp
  · exact rsh_con _
  · exact con_run mixed (n := 1000000) (by kernel_rfl) (by kernel_rfl)
theorem strEq_s (s : ByteArray) : strEq s s = true := by
  have := strEq_bs (L s) (L s)
  rw [bsL] at this; rw [this]; simp
theorem dz_law (s : ByteArray) (n : Int) (hs : s.size ≤ maxLen) (hn : I64 n) : Con Try.prog 4 [.string s, .int .i64 n] [] (.bool true) [] := by
  obtain ⟨s, rfl⟩ : ∃ l, s = bs l := ⟨L s, rfl⟩
  have hs : s.length ≤ maxLen := hs
  refine con_vc (E := EDz) mixed (calls_envC cDz_ok) (lok_envC _ _ _) (M := noM) lm_none (dz_vc s n) ?_
  have hm : maxLen = 9223372036854775807 := by unfold maxLen; rfl
  have lt := sl_len s 0 200
  simp only [ofNat_eq, toNat_cast, Nat.zero_add, Nat.add_zero, Nat.mul_one, List.drop_zero, bCells_len, bCells_drop, bCells_take, bCells_app, bCells_one, bCells_plain, List.length_replicate, List.length_append, List.length_take, List.length_drop, List.take_length, and_true, true_and, and_self, decide_true, List.length_nil, List.length_cons, Nat.sub_zero, dB_mk, dB_ro, List.take_zero, bs_dd, L_bsd, sub_sl, strEq_s]
  have key : ∀ t : List UInt8, br (rdI (bs t) == rdI (bs t)) (br (rdB (bs t) == rdB (bs t)) (br true True (true = false)) (true = false)) (true = false) := fun t => br_b (by simp) (br_b (by simp) (br_b rfl trivial))
  exact br_if (fun h => br_dec (by omega) ⟨by omega, by omega, key _⟩) (fun h => ⟨by omega, by omega, key _⟩)
end Go.Proofs.Ytnimempjpkidhaa.tk
