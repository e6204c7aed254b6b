/- What the laws of chapter 3 call. -/
import Derived.Test.YthhahjkekgbhhaaSz9
import Derived.Test.YthhahjkekgbhhaaRows
import Derived.Test.YthhahjkekgbhhaaLs3get
set_option linter.unusedSimpArgs false
set_option linter.unusedVariables false
namespace Go.Proofs.Ythhahjkekgbhhaa.s3
open Go Go.Ev Go.Sy Go.RowKit Go.Proofs.Ythhahjkekgbhhaa.bk
def u8i (m : Int) : UInt8 := UInt8.ofNat m.toNat
def IsU8 (m : Int) : Prop := ∃ b : UInt8, m = b.toNat
def pad80 (l : List UInt8) (m : UInt8) : List UInt8 := l ++ List.replicate 80 m
/-- A number brought within bounds. -/
def inside (n lo hi : Int) : Int := lo + n % (hi - lo + 1)
def cG : FuncId → List Value → List Row → Option (Prop × Value × List Row)
  | 10, [.slice (some ⟨0, 0, none⟩) n 1, .slice (some ⟨1, 0, none⟩) m 1], [r0, r1] => some (IsB r0 n ∧ IsB r1 m ∧ n ≤ maxLen, .bool (decide (dB r0 = dB r1)), [])
  | 13, [.slice (some ⟨0, 0, none⟩) n 1, .int .u8 m], [r0] => some (IsB r0 n ∧ IsU8 m ∧ n ≤ 16777136, slc 1 (n + 80), [bOwn (pad80 (dB r0) (u8i m))])
  | 15, [.slice (some ⟨0, 0, none⟩) n 1, .slice (some ⟨1, 0, none⟩) m 1, .int .u8 k], [r0, r1] => some (IsB r0 n ∧ IsB r1 m ∧ IsU8 k ∧ n ≤ maxLen ∧ m ≤ 9223372036854775000, .bool (decide (dB r0 = pad80 (dB r1) (u8i k))), [])
  | 11, [.slice (some ⟨0, 0, none⟩) n 1, .int .i64 k, .int .u8 t, .int .i64 v], [r0] => some (IsB r0 n ∧ IsU8 t ∧ n ≤ 16776000, slc 1 (putOut (dB r0) k (u8i t) v).length, [bOwn (putOut (dB r0) k (u8i t) v)])
  | 14, [.slice (some ⟨0, 0, none⟩) n 1, .int .i64 k, .int .u8 t, .int .i64 v], [r0] => some (IsB r0 n ∧ IsU8 t ∧ n ≤ 16776000, slc 1 (putOut (dB r0) k (u8i t) v).length, [bOwn (putOut (dB r0) k (u8i t) v)])
  | 16, [.slice (some ⟨0, 0, none⟩) n 1, .int .i64 i, .int .i64 k], [r0] => some (IsB r0 n ∧ n ≤ maxLen, tup (getOut (dB r0) i k), [])
  | 17, [.slice (some ⟨0, 0, none⟩) n 1, .int .i64 i, .int .i64 k], [r0] => some (IsB r0 n ∧ n ≤ maxLen, tup (getOut (dB r0) i k), [])
  | 18, [.int .i64 n, .int .i64 lo, .int .i64 hi], [] => some (0 ≤ lo ∧ lo ≤ hi ∧ hi ≤ 2147483647, .int .i64 (inside n lo hi), [])
  | 3, [], [] => some (True, .bool true, [])
  | _, _, _ => none
def kG (f : FuncId) : Bool := Nat.beq f 10 || Nat.beq f 13 || Nat.beq f 15 || Nat.beq f 11 || Nat.beq f 14 || Nat.beq f 16 || Nat.beq f 17 || Nat.beq f 18 || Nat.beq f 3
noncomputable abbrev EG : Env := envC Try.prog cG kG
theorem within_vc (n lo hi x : Int) : mcall E0 noM 60 18 [.int .i64 n, .int .i64 lo, .int .i64 hi] ⟨mkR (nums 0 []), 0⟩ (retIs 0 (.int .i64 x) []) =
  (br (IntKind.wrap IntKind.i64 (IntKind.wrap IntKind.i64 (hi - lo) + (1 : Int)) != (0 : Int))
   (br (decide (Int.tmod n (IntKind.wrap IntKind.i64 (IntKind.wrap IntKind.i64 (hi - lo) + (1 : Int))) < (0 : Int)))
    ((x = IntKind.wrap IntKind.i64 (lo + IntKind.wrap IntKind.i64 (IntKind.wrap IntKind.i64 (IntKind.wrap IntKind.i64 (Int.tmod n (IntKind.wrap IntKind.i64 (IntKind.wrap IntKind.i64 (hi - lo) + (1 : Int))) + hi) - lo) + (1 : Int)))) ∧
    True)
    ((x = IntKind.wrap IntKind.i64 (lo + Int.tmod n (IntKind.wrap IntKind.i64 (IntKind.wrap IntKind.i64 (hi - lo) + (1 : Int))))) ∧
    True))
   False) := by kernel_rfl

theorem emod_tmod (n m : Int) (hm : 0 < m) : n % m = if n.tmod m < 0 then n.tmod m + m else n.tmod m := by
  have h1 := Int.tmod_add_mul_tdiv n m
  have h2 := Int.tmod_lt_of_pos n hm
  have h3 := Int.lt_tmod_of_pos n hm
  have e : n % m = n.tmod m % m := by conv => lhs; rw [← h1, Int.add_mul_emod_self_left]
  rw [e]
  split
  · rw [← Int.add_emod_right, Int.emod_eq_of_lt (by omega) (by omega)]
  · rw [Int.emod_eq_of_lt (by omega) (by omega)]
theorem within_con (n lo hi : Int) (h0 : 0 ≤ lo) (h1 : lo ≤ hi) (h2 : hi ≤ 2147483647) : Con Try.prog 18 [.int .i64 n, .int .i64 lo, .int .i64 hi] [] (.int .i64 (lo + n % (hi - lo + 1))) [] := by
  refine con_vc (E := E0) mixed (calls_envN _) (lok_envN _) (M := noM) lm_none (within_vc n lo hi _) ?_
  have e := emod_tmod n (hi - lo + 1) (by omega)
  have b1 := Int.tmod_lt_of_pos n (show 0 < hi - lo + 1 by omega)
  have b2 := Int.lt_tmod_of_pos n (show 0 < hi - lo + 1 by omega)
  rw [wr64_id (n := hi - lo) (by unfold I64; omega), wr64_id (n := hi - lo + 1) (by unfold I64; omega)]
  generalize n.tmod (hi - lo + 1) = r at *
  rw [e]
  refine br_b (by simp; omega) (br_if (fun h => ?_) (fun h => ?_))
  · rw [if_pos h, wr64_id (n := r + hi) (by unfold I64; omega), wr64_id (n := r + hi - lo) (by unfold I64; omega), wr64_id (n := r + hi - lo + 1) (by unfold I64; omega), wr64_id (by unfold I64; omega)]
    exact ⟨by omega, trivial⟩
  · rw [if_neg h, wr64_id (by unfold I64; omega)]
    exact ⟨rfl, trivial⟩
theorem putOut0 (n : Int) (t : UInt8) (v : Int) (h : 1 ≤ n ∧ n ≤ 8 ∧ 0 ≤ v ∧ v ≤ 2147483647) : putOut [] n t v = putB t n.toNat v.toNat := by
  unfold putOut; rw [if_pos h]; rfl
theorem u8i_nat (b : UInt8) : u8i (b.toNat : Int) = b := by unfold u8i; simp
theorem isU8_nat (b : UInt8) : IsU8 (b.toNat : Int) := ⟨b, rfl⟩
theorem pad_len (l : List UInt8) (m : UInt8) : (pad80 l m).length = l.length + 80 := by simp [pad80]
set_option maxRecDepth 4000 in
theorem runs_con : Con Try.prog 3 [] [] (.bool true) [] := con_run mixed (n := 1000000) (by kernel_rfl) (by kernel_rfl)
theorem cG_ok : ∀ f a rows p v news, cG f a rows = some (p, v, news) → p → Con Try.prog f a rows v (rows ++ news) := by
  intro f a rows p v news h hp
  unfold cG at h
  split at h <;> simp only [Option.some.injEq, Prod.mk.injEq, reduceCtorEq] at h <;> obtain ⟨rfl, rfl, rfl⟩ := h
  · obtain ⟨⟨x, rfl, rfl⟩, ⟨y, rfl, rfl⟩, hl⟩ := hp
    simp only [dB_ro, List.append_nil]
    exact same_con x y hl
  · obtain ⟨⟨x, rfl, rfl⟩, ⟨m, rfl⟩, hl⟩ := hp
    simp only [dB_ro, u8i_nat]
    exact roomy_con x m hl
  · obtain ⟨⟨x, rfl, rfl⟩, ⟨y, rfl, rfl⟩, ⟨m, rfl⟩, hl, hl2⟩ := hp
    simp only [dB_ro, u8i_nat, List.append_nil]
    exact int_con x y m hl hl2
  · obtain ⟨⟨x, rfl, rfl⟩, ⟨m, rfl⟩, hl⟩ := hp
    simp only [dB_ro, u8i_nat]
    exact put_con x _ m _ hl
  · obtain ⟨⟨x, rfl, rfl⟩, ⟨m, rfl⟩, hl⟩ := hp
    simp only [dB_ro, u8i_nat]
    exact ref_con x _ m _ hl
  · obtain ⟨⟨x, rfl, rfl⟩, hl⟩ := hp
    simp only [dB_ro, List.append_nil]
    exact getP_con x _ _ hl
  · obtain ⟨⟨x, rfl, rfl⟩, hl⟩ := hp
    simp only [dB_ro, List.append_nil]
    exact getR_con x _ _ hl
  · exact within_con _ _ _ hp.1 hp.2.1 hp.2.2
  · exact runs_con
theorem more_len (v : Nat) (h : v ≤ 2147483647) : (more v).length ≤ 5 := by
  have := loop_len v h
  rw [loop_more]; simp; omega
theorem inside_in (n lo hi : Int) (h : lo ≤ hi) : lo ≤ inside n lo hi ∧ inside n lo hi ≤ hi := by
  unfold inside
  have h1 := Int.emod_nonneg n (show hi - lo + 1 ≠ 0 by omega)
  have h2 := Int.emod_lt_of_pos n (show 0 < hi - lo + 1 by omega)
  omega
theorem isB_own {l : List UInt8} : IsB ⟨bCells l, true, .cells true⟩ l.length := isB_mk _ _ rfl
end Go.Proofs.Ythhahjkekgbhhaa.s3
