/- The law of Put: the bytes behind what stood there, which stays. -/
import Derived.Test.YthhahjkekgbhhaaSz9
import Derived.Test.YthhahjkekgbhhaaRows
import Derived.Test.YthhahjkekgbhhaaLs3
set_option linter.unusedSimpArgs false
set_option linter.unusedVariables false
namespace Go.Proofs.Ythhahjkekgbhhaa.s3
open Go Go.Ev Go.Sy Go.RowKit Go.Proofs.Ythhahjkekgbhhaa.bk

def u8i (m : Int) : UInt8 := UInt8.ofNat m.toNat
def IsU8 (m : Int) : Prop := ∃ b : UInt8, m = b.toNat
def pad80 (l : List UInt8) (m : UInt8) : List UInt8 := l ++ List.replicate 80 m
def cPuts : FuncId → List Value → List Row → Option (Prop × Value × List Row)
  | 10, [.slice (some ⟨0, 0, none⟩) n 1, .slice (some ⟨1, 0, none⟩) m 1], [r0, r1] => some (IsB r0 n ∧ IsB r1 m ∧ n ≤ maxLen, .bool (decide (dB r0 = dB r1)), [])
  | 13, [.slice (some ⟨0, 0, none⟩) n 1, .int .u8 m], [r0] => some (IsB r0 n ∧ IsU8 m ∧ n ≤ 16777136, slc 1 (n + 80), [bOwn (pad80 (dB r0) (u8i m))])
  | 15, [.slice (some ⟨0, 0, none⟩) n 1, .slice (some ⟨1, 0, none⟩) m 1, .int .u8 k], [r0, r1] => some (IsB r0 n ∧ IsB r1 m ∧ IsU8 k ∧ n ≤ maxLen ∧ m ≤ 9223372036854775000, .bool (decide (dB r0 = pad80 (dB r1) (u8i k))), [])
  | 11, [.slice (some ⟨0, 0, none⟩) n 1, .int .i64 k, .int .u8 t, .int .i64 v], [r0] => some (IsB r0 n ∧ IsU8 t ∧ n ≤ 16776000, slc 1 (putOut (dB r0) k (u8i t) v).length, [bOwn (putOut (dB r0) k (u8i t) v)])
  | 14, [.slice (some ⟨0, 0, none⟩) n 1, .int .i64 k, .int .u8 t, .int .i64 v], [r0] => some (IsB r0 n ∧ IsU8 t ∧ n ≤ 16776000, slc 1 (putOut (dB r0) k (u8i t) v).length, [bOwn (putOut (dB r0) k (u8i t) v)])
  | 3, [], [] => some (True, .bool true, [])
  | _, _, _ => none
def kPuts (f : FuncId) : Bool := Nat.beq f 10 || Nat.beq f 13 || Nat.beq f 15 || Nat.beq f 11 || Nat.beq f 14 || Nat.beq f 3
noncomputable abbrev EP : Env := envC Try.prog cPuts kPuts
theorem puts_vc (b : List UInt8) (n : Int) (t : UInt8) (v : Int) : mcall EP noM 60 4 [slc 0 b.length, .int .i64 n, .int .u8 t.toNat, .int .i64 v] ⟨mkR (nums 0 [bRo b]), 1⟩ (retIs 1 (.bool true) [bRo b]) =
  ((((((0 : Nat) + List.length b * (1 : Nat) ≤ List.length (bCells b) ∧ Plain (List.take (List.length b * (1 : Nat)) (List.drop (0 : Nat) (bCells b)))) ∧ (True ∧ True)) ∧ ((Plain (bCells (pad80 (dB (Row.mk (List.take (List.length b * (1 : Nat)) (List.drop (0 : Nat) (bCells b))) true (Ob.cells true))) (u8i (41 : Int)))) ∧ True) ∧ (IsB (Row.mk (List.take (List.length b * (1 : Nat)) (List.drop (0 : Nat) (bCells b))) true (Ob.cells true)) (List.length b) ∧ (IsU8 (41 : Int) ∧ List.length b ≤ (16777136 : Nat)))))) ∧
  (br (decide ((0 : Int) ≤ (↑(0 : Nat) : Int) ∧ (0 : Int) ≤ Int.ofNat (List.length b) ∧ Int.ofNat (List.length b) ≤ (↑(List.length b + (80 : Nat)) : Int)))
   ((((((0 : Nat) + (Int.toNat (Int.ofNat (List.length b)) - (0 : Nat)) * (1 : Nat) ≤ List.length (bCells (pad80 (dB (Row.mk (List.take (List.length b * (1 : Nat)) (List.drop (0 : Nat) (bCells b))) true (Ob.cells true))) (u8i (41 : Int)))) ∧ Plain (List.take ((Int.toNat (Int.ofNat (List.length b)) - (0 : Nat)) * (1 : Nat)) (List.drop (0 : Nat) (bCells (pad80 (dB (Row.mk (List.take (List.length b * (1 : Nat)) (List.drop (0 : Nat) (bCells b))) true (Ob.cells true))) (u8i (41 : Int))))))) ∧ (True ∧ (True ∧ (True ∧ True)))) ∧ ((Plain (bCells (putOut (dB (Row.mk (List.take ((Int.toNat (Int.ofNat (List.length b)) - (0 : Nat)) * (1 : Nat)) (List.drop (0 : Nat) (bCells (pad80 (dB (Row.mk (List.take (List.length b * (1 : Nat)) (List.drop (0 : Nat) (bCells b))) true (Ob.cells true))) (u8i (41 : Int)))))) true (Ob.cells true))) n (u8i (↑(UInt8.toNat t) : Int)) v)) ∧ True) ∧ (IsB (Row.mk (List.take ((Int.toNat (Int.ofNat (List.length b)) - (0 : Nat)) * (1 : Nat)) (List.drop (0 : Nat) (bCells (pad80 (dB (Row.mk (List.take (List.length b * (1 : Nat)) (List.drop (0 : Nat) (bCells b))) true (Ob.cells true))) (u8i (41 : Int)))))) true (Ob.cells true)) (Int.toNat (Int.ofNat (List.length b)) - (0 : Nat)) ∧ (IsU8 (↑(UInt8.toNat t) : Int) ∧ Int.toNat (Int.ofNat (List.length b)) - (0 : Nat) ≤ (16776000 : Nat)))))) ∧
   ((((((0 : Nat) + List.length b * (1 : Nat) ≤ List.length (bCells b) ∧ Plain (List.take (List.length b * (1 : Nat)) (List.drop (0 : Nat) (bCells b)))) ∧ (True ∧ (True ∧ (True ∧ True)))) ∧ ((Plain (bCells (putOut (dB (Row.mk (List.take (List.length b * (1 : Nat)) (List.drop (0 : Nat) (bCells b))) true (Ob.cells true))) n (u8i (↑(UInt8.toNat t) : Int)) v)) ∧ True) ∧ (IsB (Row.mk (List.take (List.length b * (1 : Nat)) (List.drop (0 : Nat) (bCells b))) true (Ob.cells true)) (List.length b) ∧ (IsU8 (↑(UInt8.toNat t) : Int) ∧ List.length b ≤ (16776000 : Nat)))))) ∧
   ((((((0 : Nat) + List.length (putOut (dB (Row.mk (List.take ((Int.toNat (Int.ofNat (List.length b)) - (0 : Nat)) * (1 : Nat)) (List.drop (0 : Nat) (bCells (pad80 (dB (Row.mk (List.take (List.length b * (1 : Nat)) (List.drop (0 : Nat) (bCells b))) true (Ob.cells true))) (u8i (41 : Int)))))) true (Ob.cells true))) n (u8i (↑(UInt8.toNat t) : Int)) v) * (1 : Nat) ≤ List.length (bCells (putOut (dB (Row.mk (List.take ((Int.toNat (Int.ofNat (List.length b)) - (0 : Nat)) * (1 : Nat)) (List.drop (0 : Nat) (bCells (pad80 (dB (Row.mk (List.take (List.length b * (1 : Nat)) (List.drop (0 : Nat) (bCells b))) true (Ob.cells true))) (u8i (41 : Int)))))) true (Ob.cells true))) n (u8i (↑(UInt8.toNat t) : Int)) v)) ∧ Plain (List.take (List.length (putOut (dB (Row.mk (List.take ((Int.toNat (Int.ofNat (List.length b)) - (0 : Nat)) * (1 : Nat)) (List.drop (0 : Nat) (bCells (pad80 (dB (Row.mk (List.take (List.length b * (1 : Nat)) (List.drop (0 : Nat) (bCells b))) true (Ob.cells true))) (u8i (41 : Int)))))) true (Ob.cells true))) n (u8i (↑(UInt8.toNat t) : Int)) v) * (1 : Nat)) (List.drop (0 : Nat) (bCells (putOut (dB (Row.mk (List.take ((Int.toNat (Int.ofNat (List.length b)) - (0 : Nat)) * (1 : Nat)) (List.drop (0 : Nat) (bCells (pad80 (dB (Row.mk (List.take (List.length b * (1 : Nat)) (List.drop (0 : Nat) (bCells b))) true (Ob.cells true))) (u8i (41 : Int)))))) true (Ob.cells true))) n (u8i (↑(UInt8.toNat t) : Int)) v))))) ∧ (((0 : Nat) + List.length (putOut (dB (Row.mk (List.take (List.length b * (1 : Nat)) (List.drop (0 : Nat) (bCells b))) true (Ob.cells true))) n (u8i (↑(UInt8.toNat t) : Int)) v) * (1 : Nat) ≤ List.length (bCells (putOut (dB (Row.mk (List.take (List.length b * (1 : Nat)) (List.drop (0 : Nat) (bCells b))) true (Ob.cells true))) n (u8i (↑(UInt8.toNat t) : Int)) v)) ∧ Plain (List.take (List.length (putOut (dB (Row.mk (List.take (List.length b * (1 : Nat)) (List.drop (0 : Nat) (bCells b))) true (Ob.cells true))) n (u8i (↑(UInt8.toNat t) : Int)) v) * (1 : Nat)) (List.drop (0 : Nat) (bCells (putOut (dB (Row.mk (List.take (List.length b * (1 : Nat)) (List.drop (0 : Nat) (bCells b))) true (Ob.cells true))) n (u8i (↑(UInt8.toNat t) : Int)) v))))) ∧ True)) ∧ (True ∧ (IsB (Row.mk (List.take (List.length (putOut (dB (Row.mk (List.take ((Int.toNat (Int.ofNat (List.length b)) - (0 : Nat)) * (1 : Nat)) (List.drop (0 : Nat) (bCells (pad80 (dB (Row.mk (List.take (List.length b * (1 : Nat)) (List.drop (0 : Nat) (bCells b))) true (Ob.cells true))) (u8i (41 : Int)))))) true (Ob.cells true))) n (u8i (↑(UInt8.toNat t) : Int)) v) * (1 : Nat)) (List.drop (0 : Nat) (bCells (putOut (dB (Row.mk (List.take ((Int.toNat (Int.ofNat (List.length b)) - (0 : Nat)) * (1 : Nat)) (List.drop (0 : Nat) (bCells (pad80 (dB (Row.mk (List.take (List.length b * (1 : Nat)) (List.drop (0 : Nat) (bCells b))) true (Ob.cells true))) (u8i (41 : Int)))))) true (Ob.cells true))) n (u8i (↑(UInt8.toNat t) : Int)) v)))) true (Ob.cells true)) (List.length (putOut (dB (Row.mk (List.take ((Int.toNat (Int.ofNat (List.length b)) - (0 : Nat)) * (1 : Nat)) (List.drop (0 : Nat) (bCells (pad80 (dB (Row.mk (List.take (List.length b * (1 : Nat)) (List.drop (0 : Nat) (bCells b))) true (Ob.cells true))) (u8i (41 : Int)))))) true (Ob.cells true))) n (u8i (↑(UInt8.toNat t) : Int)) v)) ∧ (IsB (Row.mk (List.take (List.length (putOut (dB (Row.mk (List.take (List.length b * (1 : Nat)) (List.drop (0 : Nat) (bCells b))) true (Ob.cells true))) n (u8i (↑(UInt8.toNat t) : Int)) v) * (1 : Nat)) (List.drop (0 : Nat) (bCells (putOut (dB (Row.mk (List.take (List.length b * (1 : Nat)) (List.drop (0 : Nat) (bCells b))) true (Ob.cells true))) n (u8i (↑(UInt8.toNat t) : Int)) v)))) true (Ob.cells true)) (List.length (putOut (dB (Row.mk (List.take (List.length b * (1 : Nat)) (List.drop (0 : Nat) (bCells b))) true (Ob.cells true))) n (u8i (↑(UInt8.toNat t) : Int)) v)) ∧ List.length (putOut (dB (Row.mk (List.take ((Int.toNat (Int.ofNat (List.length b)) - (0 : Nat)) * (1 : Nat)) (List.drop (0 : Nat) (bCells (pad80 (dB (Row.mk (List.take (List.length b * (1 : Nat)) (List.drop (0 : Nat) (bCells b))) true (Ob.cells true))) (u8i (41 : Int)))))) true (Ob.cells true))) n (u8i (↑(UInt8.toNat t) : Int)) v) ≤ (9223372036854775807 : Nat)))))) ∧
   (br (decide (dB (Row.mk (List.take (List.length (putOut (dB (Row.mk (List.take ((Int.toNat (Int.ofNat (List.length b)) - (0 : Nat)) * (1 : Nat)) (List.drop (0 : Nat) (bCells (pad80 (dB (Row.mk (List.take (List.length b * (1 : Nat)) (List.drop (0 : Nat) (bCells b))) true (Ob.cells true))) (u8i (41 : Int)))))) true (Ob.cells true))) n (u8i (↑(UInt8.toNat t) : Int)) v) * (1 : Nat)) (List.drop (0 : Nat) (bCells (putOut (dB (Row.mk (List.take ((Int.toNat (Int.ofNat (List.length b)) - (0 : Nat)) * (1 : Nat)) (List.drop (0 : Nat) (bCells (pad80 (dB (Row.mk (List.take (List.length b * (1 : Nat)) (List.drop (0 : Nat) (bCells b))) true (Ob.cells true))) (u8i (41 : Int)))))) true (Ob.cells true))) n (u8i (↑(UInt8.toNat t) : Int)) v)))) true (Ob.cells true)) = dB (Row.mk (List.take (List.length (putOut (dB (Row.mk (List.take (List.length b * (1 : Nat)) (List.drop (0 : Nat) (bCells b))) true (Ob.cells true))) n (u8i (↑(UInt8.toNat t) : Int)) v) * (1 : Nat)) (List.drop (0 : Nat) (bCells (putOut (dB (Row.mk (List.take (List.length b * (1 : Nat)) (List.drop (0 : Nat) (bCells b))) true (Ob.cells true))) n (u8i (↑(UInt8.toNat t) : Int)) v)))) true (Ob.cells true))))
    ((((((0 : Nat) + (List.length b + (80 : Nat)) * (1 : Nat) ≤ List.length (bCells (pad80 (dB (Row.mk (List.take (List.length b * (1 : Nat)) (List.drop (0 : Nat) (bCells b))) true (Ob.cells true))) (u8i (41 : Int)))) ∧ Plain (List.take ((List.length b + (80 : Nat)) * (1 : Nat)) (List.drop (0 : Nat) (bCells (pad80 (dB (Row.mk (List.take (List.length b * (1 : Nat)) (List.drop (0 : Nat) (bCells b))) true (Ob.cells true))) (u8i (41 : Int))))))) ∧ (((0 : Nat) + List.length b * (1 : Nat) ≤ List.length (bCells b) ∧ Plain (List.take (List.length b * (1 : Nat)) (List.drop (0 : Nat) (bCells b)))) ∧ (True ∧ True))) ∧ (True ∧ (IsB (Row.mk (List.take ((List.length b + (80 : Nat)) * (1 : Nat)) (List.drop (0 : Nat) (bCells (pad80 (dB (Row.mk (List.take (List.length b * (1 : Nat)) (List.drop (0 : Nat) (bCells b))) true (Ob.cells true))) (u8i (41 : Int)))))) true (Ob.cells true)) (List.length b + (80 : Nat)) ∧ (IsB (Row.mk (List.take (List.length b * (1 : Nat)) (List.drop (0 : Nat) (bCells b))) true (Ob.cells true)) (List.length b) ∧ (IsU8 (41 : Int) ∧ (List.length b + (80 : Nat) ≤ (9223372036854775807 : Nat) ∧ List.length b ≤ (9223372036854775000 : Nat)))))))) ∧
    (br (decide (dB (Row.mk (List.take ((List.length b + (80 : Nat)) * (1 : Nat)) (List.drop (0 : Nat) (bCells (pad80 (dB (Row.mk (List.take (List.length b * (1 : Nat)) (List.drop (0 : Nat) (bCells b))) true (Ob.cells true))) (u8i (41 : Int)))))) true (Ob.cells true)) = pad80 (dB (Row.mk (List.take (List.length b * (1 : Nat)) (List.drop (0 : Nat) (bCells b))) true (Ob.cells true))) (u8i (41 : Int))))
     (((True ∧ (True ∧ True))) ∧
     ((true = true) ∧
     ((Eq (α := List Value) (bCells b) (bCells b)) ∧
     ((Plain (bCells b)) ∧
     True))))
     ((true = false) ∧
     ((Eq (α := List Value) (bCells b) (bCells b)) ∧
     ((Plain (bCells b)) ∧
     True)))))
    ((true = false) ∧
    ((Eq (α := List Value) (bCells b) (bCells b)) ∧
    ((Plain (bCells b)) ∧
    True)))))))
   False)) := by kernel_rfl

theorem u8i_nat (b : UInt8) : u8i (b.toNat : Int) = b := by unfold u8i; simp
theorem isU8_nat (b : UInt8) : IsU8 (b.toNat : Int) := ⟨b, rfl⟩
theorem pad_len (l : List UInt8) (m : UInt8) : (pad80 l m).length = l.length + 80 := by simp [pad80]
set_option maxRecDepth 4000 in
theorem runs_con : Con Try.prog 3 [] [] (.bool true) [] := con_run mixed (n := 1000000) (by kernel_rfl) (by kernel_rfl)
theorem cPuts_ok : ∀ f a rows p v news, cPuts f a rows = some (p, v, news) → p → Con Try.prog f a rows v (rows ++ news) := by
  intro f a rows p v news h hp
  unfold cPuts at h
  split at h <;> simp only [Option.some.injEq, Prod.mk.injEq, reduceCtorEq] at h <;> obtain ⟨rfl, rfl, rfl⟩ := h
  · obtain ⟨⟨x, rfl, rfl⟩, ⟨y, rfl, rfl⟩, hl⟩ := hp
    simp only [dB_ro, List.append_nil]
    exact same_con x y hl
  · obtain ⟨⟨x, rfl, rfl⟩, ⟨m, rfl⟩, hl⟩ := hp
    simp only [dB_ro, u8i_nat]
    exact roomy_con x m hl
  · obtain ⟨⟨x, rfl, rfl⟩, ⟨y, rfl, rfl⟩, ⟨m, rfl⟩, hl, hl2⟩ := hp
    simp only [dB_ro, u8i_nat, List.append_nil]
    exact int_con x y m hl hl2
  · obtain ⟨⟨x, rfl, rfl⟩, ⟨m, rfl⟩, hl⟩ := hp
    simp only [dB_ro, u8i_nat]
    exact put_con x _ m _ hl
  · obtain ⟨⟨x, rfl, rfl⟩, ⟨m, rfl⟩, hl⟩ := hp
    simp only [dB_ro, u8i_nat]
    exact ref_con x _ m _ hl
  · exact runs_con
theorem more_len (v : Nat) (h : v ≤ 2147483647) : (more v).length ≤ 5 := by
  have := loop_len v h
  rw [loop_more]; simp; omega
theorem putOut_len (b : List UInt8) (n : Int) (t : UInt8) (v : Int) : (putOut b n t v).length ≤ b.length + 6 := by
  unfold putOut
  split
  · unfold putB
    split
    · simp
    · have := more_len (v.toNat - (2 ^ n.toNat - 1)) (by omega)
      simp; omega
  · omega
theorem puts_con (b : List UInt8) (n : Int) (t : UInt8) (v : Int) (hb : b.length ≤ 1048576) : Con Try.prog 4 [slc 0 b.length, .int .i64 n, .int .u8 t.toNat, .int .i64 v] [bRo b] (.bool true) [bRo b] := by
  refine con_vc (E := EP) mixed (calls_envC cPuts_ok) (lok_envC _ _ _) (M := noM) lm_none (puts_vc b n t v) ?_
  have hl := putOut_len b n t v
  have e1 : List.take b.length (pad80 b (u8i 41)) = b := by unfold pad80; rw [List.take_left]
  simp only [ofNat_eq, toNat_cast, Nat.zero_add, Nat.add_zero, Nat.mul_one, List.drop_zero, bCells_len, bCells_drop, bCells_take, bCells_app, bCells_one, bCells_plain, List.length_replicate, List.length_append, List.length_take, List.length_drop, List.take_length, and_true, true_and, and_self, decide_true, List.length_nil, List.length_cons, Nat.sub_zero, dB_mk, dB_ro, List.take_zero, pad_len, u8i_nat, isU8_nat, e1]
  have e2 : List.take (b.length + 80) (pad80 b (u8i 41)) = pad80 b (u8i 41) := List.take_of_length_le (by rw [pad_len]; omega)
  rw [e2]
  have hB : ∀ l : List UInt8, IsB { cells := bCells l, ro := true, ob := Ob.cells true } l.length := fun l => isB_mk _ _ rfl
  have hB2 : IsB { cells := bCells (pad80 b (u8i 41)), ro := true, ob := Ob.cells true } (b.length + 80) := isB_mk _ _ (pad_len _ _).symm
  have h41 : IsU8 41 := ⟨41, rfl⟩
  refine ⟨⟨by omega, hB b, h41, by omega⟩, br_dec ⟨by omega, by omega, by omega⟩ ⟨⟨by omega, hB b, by omega⟩, ⟨by omega, hB b, by omega⟩, ⟨by omega, hB _, hB _, by omega⟩, br_b rfl ⟨⟨⟨by omega, by omega⟩, hB2, hB b, h41, by omega, by omega⟩, br_b (decide_eq_true rfl) trivial⟩⟩⟩
theorem puts_law (b : List UInt8) (n : Int) (t : UInt8) (v : Int) (hb : b.length ≤ 1048576) (_ : I64 n) (_ : I64 v) : Con Try.prog 4 [slc 0 b.length, .int .i64 n, .int .u8 t.toNat, .int .i64 v] [bRo b] (.bool true) [bRo b] := puts_con b n t v hb
end Go.Proofs.Ythhahjkekgbhhaa.s3
