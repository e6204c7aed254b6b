/- Bits, and bytes of bits. -/
import Derived.Test.YtnbfhihibgdgpaaGreatDoorSz9
import Derived.Test.YtnbfhihibgdgpaaGreatDoorRows
import Derived.Test.YtnbfhihibgdgpaaGreatDoorLhfO
set_option maxRecDepth 20000
set_option linter.unusedSimpArgs false
set_option linter.unusedVariables false
namespace Go.Proofs.YtnbfhihibgdgpaaGreatDoor.hf
open Go Go.Ev Go.Sy Go.RowKit Go.Proofs.YtnbfhihibgdgpaaGreatDoor.gl Go.Proofs.YtnbfhihibgdgpaaGreatDoor.tk
def val (b : List Bool) : Nat := b.foldl (fun n c => n * 2 + c.toNat) 0
def bl : Nat → Nat → List Bool
  | 0, _ => []
  | n + 1, v => decide (v / 2 ^ n % 2 = 1) :: bl n v
def byN (b : List Bool) : UInt8 := UInt8.ofNat (val b)
def byts (b : List Bool) : List UInt8 := if h : 8 ≤ b.length then byN (b.take 8) :: byts (b.drop 8) else []
termination_by b.length
decreasing_by simp; omega
def rest (b : List Bool) : List Bool := if h : 8 ≤ b.length then rest (b.drop 8) else b
termination_by b.length
decreasing_by simp; omega
def cB (s : Nat) : List Bool := bl (hLen s) (codeN s)
def encB (l : List UInt8) : List Bool := l.flatMap fun c => cB c.toNat
def padd (b : List Bool) : List Bool := b ++ List.replicate ((8 - b.length % 8) % 8) true
def encL (l : List UInt8) : List UInt8 := byts (padd (encB l))
theorem fold_val (b : List Bool) : ∀ n, b.foldl (fun n c => n * 2 + c.toNat) n = n * 2 ^ b.length + val b := by
  induction b with
  | nil => intro n; simp [val]
  | cons c b ih =>
    intro n
    unfold val
    rw [List.foldl_cons, List.foldl_cons, ih, ih (0 * 2 + c.toNat), List.length_cons, Nat.pow_succ, Nat.add_mul, Nat.mul_assoc, Nat.mul_comm 2]
    simp only [Nat.zero_mul, Nat.zero_add]
    omega
theorem val_app (a b : List Bool) : val (a ++ b) = val a * 2 ^ b.length + val b := by
  unfold val; rw [List.foldl_append, fold_val]; rfl
theorem val_cons (c : Bool) (b : List Bool) : val (c :: b) = c.toNat * 2 ^ b.length + val b := by
  have := val_app [c] b
  rw [List.singleton_append] at this
  rw [this]; simp [val]
theorem val_lt (b : List Bool) : val b < 2 ^ b.length := by
  induction b with
  | nil => decide
  | cons c b ih =>
    rw [val_cons, List.length_cons, Nat.pow_succ]
    have : c.toNat ≤ 1 := by cases c <;> decide
    have h2 : c.toNat * 2 ^ b.length ≤ 1 * 2 ^ b.length := Nat.mul_le_mul_right _ this
    omega
theorem val_take (b : List Bool) (k : Nat) (h : k ≤ b.length) : val (b.take k) = val b / 2 ^ (b.length - k) ∧ val (b.drop k) = val b % 2 ^ (b.length - k) := by
  have e : val b = val (b.take k) * 2 ^ (b.length - k) + val (b.drop k) := by
    conv => lhs; rw [← List.take_append_drop k b]
    rw [val_app, List.length_drop]
  have h2 := val_lt (b.drop k)
  rw [List.length_drop] at h2
  have hp : 0 < 2 ^ (b.length - k) := Nat.two_pow_pos _
  rw [e]
  constructor
  · rw [Nat.add_comm, Nat.add_mul_div_right _ _ hp, Nat.div_eq_of_lt h2, Nat.zero_add]
  · rw [Nat.add_comm, Nat.add_mul_mod_self_right, Nat.mod_eq_of_lt h2]
def codeP (s : Nat) : Nat := fstN (hLen s) + (posN s - stN (hLen s))
theorem code_p (s : Nat) (h : s < 257) : codeN s = codeP s := by have := pos_eq s h; unfold codeN codeP; omega
theorem fB (s : Nat) (h : s < 257) : f3 257 s = hLen s ∧ f3 257 (257 + s) = codeN s ∧ f3 257 (514 + s) = ordN s := by
  obtain ⟨_, _, h3, _⟩ := pos_in s h
  refine ⟨?_, ?_, ?_⟩
  · unfold f3 f2 f1; rw [if_neg (by omega), if_neg (by omega), if_neg (by omega), if_neg (by omega), if_pos h, if_pos h]
  · unfold f3; rw [if_pos (by omega), Nat.add_sub_cancel_left, if_pos h]
  · unfold f3; rw [if_neg (by omega), if_pos (by omega), Nat.add_sub_cancel_left, if_pos h3]
theorem fZ (z : Nat) (h : z < 31) : f3 257 (771 + z) = fstN z ∧ f3 257 (802 + z) = cntN z ∧ f3 257 (833 + z) = stN z := by
  refine ⟨?_, ?_, ?_⟩
  · unfold f3 f2; rw [if_neg (by omega), if_neg (by omega), if_pos (by omega), Nat.add_sub_cancel_left, if_pos (by omega)]
  · unfold f3 f2 f1; rw [if_neg (by omega), if_neg (by omega), if_neg (by omega), if_neg (by omega), if_neg (by omega), if_pos (by omega), Nat.add_sub_cancel_left, cnt_eq z h]
  · unfold f3 f2; rw [if_neg (by omega), if_neg (by omega), if_neg (by omega), if_pos (by omega), Nat.add_sub_cancel_left, if_pos (by omega)]
end Go.Proofs.YtnbfhihibgdgpaaGreatDoor.hf
