/- What waits is taken out: contract. -/
import Derived.Test.YtcallecdjebojaaGreatSz9
import Derived.Test.YtcallecdjebojaaGreatRows
import Derived.Test.YtcallecdjebojaaGreatLcpB
import Derived.Test.YtcallecdjebojaaGreatLbkS
set_option maxRecDepth 20000
set_option linter.unusedSimpArgs false
set_option linter.unusedVariables false
namespace Go.Proofs.YtcallecdjebojaaGreat.cp
open Go Go.Ev Go.Sy Go.RowKit Go.Proofs.YtcallecdjebojaaGreat.gl Go.Proofs.YtcallecdjebojaaGreat.tk
theorem cp_ex {α : Type} (f : α) : ∃ g, g = f := ⟨f, rfl⟩
noncomputable def sealV {α : Type} (f : α) : α := Classical.choose (cp_ex f)
theorem sealV_eq {α : Type} (f : α) : sealV f = f := Classical.choose_spec (cp_ex f)
def cnO (k n : Nat) : Row := ⟨[.bool true, .int .i64 2, .int .i64 65535, .int .i64 65536, .int .i64 4096, .int .i64 2147483647, .int .i64 65535, .int .i64 16384, .int .i64 2147483647, .slice (some ⟨1, k, none⟩) n 1, .pointer (some ⟨2, 0, none⟩), .pointer (some ⟨3, 0, none⟩), .pointer (some ⟨4, 0, none⟩), .int .i64 65535, .int .i64 65535, .slice none 0 0, .slice none 0 0, .int .i64 0, .int .i64 1, .bool true, .bool false, .bool false, .bool false, .bool false, .int .i64 0, .slice none 0 0, .bool false, .slice none 0 0], false, .cells false⟩
noncomputable def woZ : Row → Nat → List UInt8 := sealV fun r k => (dB r).drop k
def OkO (r1 : Row) (k n : Nat) (N : Int) : Prop := ∃ x : List UInt8, r1 = bOwn x ∧ k ≤ x.length ∧ n = x.length - k ∧ x.length ≤ 2000 ∧ 2000 ≤ N
def OkY (r5 : Row) : Prop := ∃ y, r5 = ⟨y, false, .cells true⟩
noncomputable def eOut : EntM := (16, fun a r => match a, r with
  | [.pointer (some ⟨0, 0, none⟩), .int .i64 N], [r0, r1, ⟨[.slice (some ⟨5, j, none⟩) n5 1, .int .i64 m2, .string t2, .int .i64 s2, .int .i64 c2, .int .i64 b2], false, .cells false⟩, r3, r4, r5, r6, r7] => (match r0 with
    | ⟨.bool _ :: .int .i64 _ :: .int .i64 _ :: .int .i64 _ :: .int .i64 _ :: .int .i64 _ :: .int .i64 _ :: .int .i64 _ :: .int .i64 _ :: .slice (some ⟨1, k, none⟩) n 1 :: _, false, .cells false⟩ => some (r0 = cnO k n ∧ OkO r1 k n N ∧ (n5 = 0 ∧ m2 = 16384 ∧ t2 = ⟨#[]⟩ ∧ s2 = 0 ∧ c2 = 0 ∧ b2 = 0) ∧ r3 = unB 6 ∧ r4 = pkB 7 ∧ OkY r5 ∧ r6 = tbB ∧ r7 = tbB, .slice (some ⟨8, 0, none⟩) n 1, 9, [(0, cnO (k + n) 0), (1, r1), (8, bOwn (woZ r1 k))])
    | _ => none)
  | _, _ => none)
theorem Ou_vc (x w : List UInt8) (k n j : Nat) (y : List Value) (N : Int) : mcall bk.E0 noM 60 16 [.pointer (some ⟨0, 0, none⟩), .int .i64 N] ⟨mkR (nums 0 [cnO k n, bOwn x, rdB 5 j 0, unB 6, pkB 7, ⟨y, false, .cells true⟩, tbB, tbB]), 8⟩ (retIsM 8 (.slice (some ⟨8, 0, none⟩) n 1) 9 [(0, cnO (k + n) 0), (1, bOwn x), (8, bOwn w)]) =
  (br (decide ((0 : Int) <= (↑0 : Int) /\ ((0 : Int) <= if Int.ofNat n < if (0 : Int) > N then (0 : Int) else N then Int.ofNat n else if (0 : Int) > N then (0 : Int) else N)
  /\ (if Int.ofNat n < if (0 : Int) > N then (0 : Int) else N then Int.ofNat n else if (0 : Int) > N then (0 : Int) else N) <= (↑n : Int))) (br (decide (k + 0 + (Int.toNat
  (if Int.ofNat n < if (0 : Int) > N then (0 : Int) else N then Int.ofNat n else if (0 : Int) > N then (0 : Int) else N) - 0) * 1 <= List.length (bCells x))) (br (allOne
  (List.take ((Int.toNat (if Int.ofNat n < if (0 : Int) > N then (0 : Int) else N then Int.ofNat n else if (0 : Int) > N then (0 : Int) else N) - 0) * 1) (List.drop (k + 0)
  (bCells x)))) (br (decide (Int.toNat (if Int.ofNat n < if (0 : Int) > N then (0 : Int) else N then Int.ofNat n else if (0 : Int) > N then (0 : Int) else N) - 0 <=
  16777216)) (br (decide (((0 : Int) <= if Int.ofNat n < if (0 : Int) > N then (0 : Int) else N then Int.ofNat n else if (0 : Int) > N then (0 : Int) else N) /\ (if
  Int.ofNat n < if (0 : Int) > N then (0 : Int) else N then Int.ofNat n else if (0 : Int) > N then (0 : Int) else N) <= (↑n : Int) /\ (↑n : Int) <= (↑n : Int))) ((0 = 0) /\
  ((n = Int.toNat (if Int.ofNat n < if (0 : Int) > N then (0 : Int) else N then Int.ofNat n else if (0 : Int) > N then (0 : Int) else N) - 0) /\ ((true = true) /\ (((2 :
  Int) = (2 : Int)) /\ (((65535 : Int) = (65535 : Int)) /\ (((65536 : Int) = (65536 : Int)) /\ (((4096 : Int) = (4096 : Int)) /\ (((2147483647 : Int) = (2147483647 : Int))
  /\ (((65535 : Int) = (65535 : Int)) /\ (((16384 : Int) = (16384 : Int)) /\ (((2147483647 : Int) = (2147483647 : Int)) /\ ((k + n = k + Int.toNat (if Int.ofNat n < if (0 :
  Int) > N then (0 : Int) else N then Int.ofNat n else if (0 : Int) > N then (0 : Int) else N) * 1) /\ ((0 = Int.toNat (↑n : Int) - Int.toNat (if Int.ofNat n < if (0 : Int)
  > N then (0 : Int) else N then Int.ofNat n else if (0 : Int) > N then (0 : Int) else N)) /\ ((0 = 0) /\ ((0 = 0) /\ ((0 = 0) /\ (((65535 : Int) = (65535 : Int)) /\
  (((65535 : Int) = (65535 : Int)) /\ (((0 : Int) = (0 : Int)) /\ (((1 : Int) = (1 : Int)) /\ ((true = true) /\ ((false = false) /\ ((false = false) /\ ((false = false) /\
  ((false = false) /\ (((0 : Int) = (0 : Int)) /\ ((false = false) /\ ((Eq (α := List Value) (bCells x) (bCells x)) /\ ((Plain (bCells x)) /\ ((Eq (α := List Value) (bCells
  w) (List.take ((Int.toNat (if Int.ofNat n < if (0 : Int) > N then (0 : Int) else N then Int.ofNat n else if (0 : Int) > N then (0 : Int) else N) - 0) * 1) (List.drop (k +
  0) (bCells x)))) /\ ((Plain (bCells w)) /\ True))))))))))))))))))))))))))))))) False) False) False) False) False) := by kernel_rfl
theorem Ou_con (x : List UInt8) (k j : Nat) (y : List Value) (N : Int) (hk : k ≤ x.length) (hx : x.length ≤ 2000) (hN : 2000 ≤ N) : ConM Tryz.prog 16 [.pointer (some ⟨0, 0, none⟩), .int .i64 N] [cnO k (x.length - k), bOwn x, rdB 5 j 0, unB 6, pkB 7, ⟨y, false, .cells true⟩, tbB, tbB] (.slice (some ⟨8, 0, none⟩) (x.length - k) 1) 9 [(0, cnO (k + (x.length - k)) 0), (1, bOwn x), (8, bOwn (x.drop k))] := by
  refine conM_vc (E := bk.E0) bk.mixed (calls_envN _) (lok_envN _) (M := noM) lm_none (Ou_vc x (x.drop k) k (x.length - k) j y N) ?_
  have e0 : (if (0 : Int) > N then (0 : Int) else N) = N := if_neg (by omega)
  have e1 : (if ((x.length - k : Nat) : Int) < N then ((x.length - k : Nat) : Int) else N) = ((x.length - k : Nat) : Int) := by split <;> omega
  have e2 : (x.drop k).take (x.length - k) = x.drop k := List.take_of_length_le (by rw [List.length_drop]; exact Nat.le_refl _)
  simp only [ofNat_eq, toNat_cast, Nat.zero_add, Nat.add_zero, Nat.mul_one, List.drop_zero, bCells_len, bCells_drop, bCells_take, bCells_app, bCells_one, bCells_plain, List.length_replicate, List.length_append, List.length_take, List.length_drop, List.take_length, and_true, true_and, and_self, decide_true, List.length_nil, List.length_cons, Nat.sub_zero, dB_mk, dB_ro, List.take_zero, e0, e1, Int.toNat_natCast, e2]
  exact br_dec (by omega) (br_dec (by omega) (br_b rfl (br_dec (by omega) (br_dec (by omega) (by first | exact ⟨rfl, rfl, by omega, rfl⟩ | exact ⟨trivial, trivial, by omega, trivial⟩ | omega)))))
theorem dB_own (x : List UInt8) : dB (bOwn x) = x := dB_mk _ _ _
theorem eOut_ok : EntOk Tryz.prog eOut := by
  intro a rows p v n' rl h hp
  unfold eOut at h
  simp only at h
  split at h
  · split at h
    · simp only [Option.some.injEq, Prod.mk.injEq] at h
      obtain ⟨rfl, rfl, rfl, rfl⟩ := h
      obtain ⟨e0, ⟨x, rfl, hk, rfl, hx, hN⟩, ⟨rfl, rfl, rfl, rfl, rfl, rfl⟩, rfl, rfl, ⟨y, rfl⟩, rfl, rfl⟩ := hp
      rw [e0]
      unfold woZ; rw [sealV_eq, dB_own]
      exact Ou_con x _ _ y _ hk hx hN
    · simp at h
  · simp at h
end Go.Proofs.YtcallecdjebojaaGreat.cp
