/- What waits is taken out, one stream muted: contract. -/
import Derived.Test.YtcallecdjebojaaGreatSz9
import Derived.Test.YtcallecdjebojaaGreatRows
import Derived.Test.YtcallecdjebojaaGreatLcgF
set_option maxRecDepth 20000
set_option linter.unusedSimpArgs false
set_option linter.unusedVariables false
namespace Go.Proofs.YtcallecdjebojaaGreat.cg
open Go Go.Ev Go.Sy Go.RowKit Go.Proofs.YtcallecdjebojaaGreat.gl Go.Proofs.YtcallecdjebojaaGreat.tk Go.Proofs.YtcallecdjebojaaGreat.cp Go.Proofs.YtcallecdjebojaaGreat.s9 Go.Proofs.YtcallecdjebojaaGreat.fd Go.Proofs.YtcallecdjebojaaGreat.fe
def cnQ (qk qn : Nat) : Row := ⟨[.bool true, .int .i64 2, .int .i64 65535, .int .i64 65536, .int .i64 4096, .int .i64 2147483647, .int .i64 65535, .int .i64 16384, .int .i64 2147483647, .slice (some ⟨1, qk, none⟩) qn 1, .pointer (some ⟨2, 0, none⟩), .pointer (some ⟨3, 0, none⟩), .pointer (some ⟨4, 0, none⟩), .int .i64 65535, .int .i64 65535, .slice none 0 0, .slice (some ⟨5, 0, none⟩) 1 1, .int .i64 1, .int .i64 1, .bool true, .bool false, .bool false, .bool false, .bool false, .int .i64 0, .slice none 0 0, .bool false, .slice none 0 0], false, .cells false⟩
def muQ : Row := ⟨[.int .i64 1], false, .cells true⟩
def OkQ (r1 : Row) (k n : Nat) (N : Int) : Prop := ∃ x : List UInt8, r1 = bOwn x ∧ k + n = x.length ∧ x.length ≤ 2000 ∧ 2000 ≤ N
def OkL (r : Row) : Prop := ∃ x : List UInt8, r = bOwn x
noncomputable def eOuQ : EntM := (16, fun a r => match a, r with
  | [.pointer (some ⟨0, 0, none⟩), .int .i64 N], [r0, r1, ⟨[.slice (some ⟨6, j, none⟩) n5 1, .int .i64 m2, .string t2, .int .i64 s2, .int .i64 c2, .int .i64 b2], false, .cells false⟩, r3, r4, r5, r6, r7, r8] => (match r0 with
    | ⟨.bool _ :: .int .i64 _ :: .int .i64 _ :: .int .i64 _ :: .int .i64 _ :: .int .i64 _ :: .int .i64 _ :: .int .i64 _ :: .int .i64 _ :: .slice (some ⟨1, k, none⟩) n 1 :: _, false, .cells false⟩ => some (r0 = cnQ k n ∧ OkQ r1 k n N ∧ (n5 = 0 ∧ m2 = 16384 ∧ t2 = ⟨#[]⟩ ∧ s2 = 0 ∧ c2 = 0 ∧ b2 = 0) ∧ r3 = unB 7 ∧ r4 = pkB 8 ∧ r5 = muQ ∧ OkL r6 ∧ r7 = tbB ∧ r8 = tbB, .slice (some ⟨9, 0, none⟩) n 1, 10, [(0, cnQ (k + n) 0), (1, r1), (2, cp.rdB 6 j 0), (3, unB 7), (4, pkB 8), (5, muQ), (6, r6), (7, tbB), (8, tbB), (9, bOwn (woZ r1 k))])
    | _ => none)
  | _, _ => none)
theorem OuQ_vc (x w y : List UInt8) (k n j : Nat) (N : Int) : mcall bk.E0 noM 60 16 [.pointer (some ⟨0, 0, none⟩), .int .i64 N] ⟨mkR (nums 0 [cnQ k n, bOwn x, cp.rdB 6 j 0, unB 7, pkB 8, muQ, bOwn y, tbB, tbB]), 9⟩ (retIsM 9 (.slice (some ⟨9, 0, none⟩) n 1) 10 [(0, cnQ (k + n) 0), (1, bOwn x), (2, cp.rdB 6 j 0), (3, unB 7), (4, pkB 8), (5, muQ), (6, bOwn y), (7, tbB), (8, tbB), (9, bOwn w)]) =
  (br (decide ((0 : Int) <= (↑0 : Int) /\ ((0 : Int) <= if Int.ofNat n < if (0 : Int) > N then (0 : Int) else N then Int.ofNat n else if (0 : Int) > N then (0 : Int) else N)
  /\ (if Int.ofNat n < if (0 : Int) > N then (0 : Int) else N then Int.ofNat n else if (0 : Int) > N then (0 : Int) else N) <= (↑n : Int))) (br (decide (k + 0 + (Int.toNat
  (if Int.ofNat n < if (0 : Int) > N then (0 : Int) else N then Int.ofNat n else if (0 : Int) > N then (0 : Int) else N) - 0) * 1 <= List.length (bCells x))) (br (allOne
  (List.take ((Int.toNat (if Int.ofNat n < if (0 : Int) > N then (0 : Int) else N then Int.ofNat n else if (0 : Int) > N then (0 : Int) else N) - 0) * 1) (List.drop (k + 0)
  (bCells x)))) (br (decide (Int.toNat (if Int.ofNat n < if (0 : Int) > N then (0 : Int) else N then Int.ofNat n else if (0 : Int) > N then (0 : Int) else N) - 0 <=
  16777216)) (br (decide (((0 : Int) <= if Int.ofNat n < if (0 : Int) > N then (0 : Int) else N then Int.ofNat n else if (0 : Int) > N then (0 : Int) else N) /\ (if
  Int.ofNat n < if (0 : Int) > N then (0 : Int) else N then Int.ofNat n else if (0 : Int) > N then (0 : Int) else N) <= (↑n : Int) /\ (↑n : Int) <= (↑n : Int))) ((0 = 0) /\
  ((n = Int.toNat (if Int.ofNat n < if (0 : Int) > N then (0 : Int) else N then Int.ofNat n else if (0 : Int) > N then (0 : Int) else N) - 0) /\ ((true = true) /\ (((2 :
  Int) = (2 : Int)) /\ (((65535 : Int) = (65535 : Int)) /\ (((65536 : Int) = (65536 : Int)) /\ (((4096 : Int) = (4096 : Int)) /\ (((2147483647 : Int) = (2147483647 : Int))
  /\ (((65535 : Int) = (65535 : Int)) /\ (((16384 : Int) = (16384 : Int)) /\ (((2147483647 : Int) = (2147483647 : Int)) /\ ((k + n = k + Int.toNat (if Int.ofNat n < if (0 :
  Int) > N then (0 : Int) else N then Int.ofNat n else if (0 : Int) > N then (0 : Int) else N) * 1) /\ ((0 = Int.toNat (↑n : Int) - Int.toNat (if Int.ofNat n < if (0 : Int)
  > N then (0 : Int) else N then Int.ofNat n else if (0 : Int) > N then (0 : Int) else N)) /\ ((0 = 0) /\ ((0 = 0) /\ ((0 = 0) /\ (((65535 : Int) = (65535 : Int)) /\
  (((65535 : Int) = (65535 : Int)) /\ ((0 = 0) /\ ((1 = 1) /\ (((1 : Int) = (1 : Int)) /\ (((1 : Int) = (1 : Int)) /\ ((true = true) /\ ((false = false) /\ ((false = false)
  /\ ((false = false) /\ ((false = false) /\ (((0 : Int) = (0 : Int)) /\ ((false = false) /\ ((Eq (α := List Value) (bCells x) (bCells x)) /\ ((Plain (bCells x)) /\ ((j = j)
  /\ ((0 = 0) /\ (((16384 : Int) = (16384 : Int)) /\ ((ByteArray.mk #[] = ByteArray.mk #[]) /\ (((0 : Int) = (0 : Int)) /\ (((0 : Int) = (0 : Int)) /\ (((0 : Int) = (0 :
  Int)) /\ ((0 = 0) /\ (((4096 : Int) = (4096 : Int)) /\ (((65536 : Int) = (65536 : Int)) /\ ((false = false) /\ ((0 = 0) /\ ((false = false) /\ (((0 : Int) = (0 : Int)) /\
  ((Eq (α := List Value) ([Value.int IntKind.i64 (1 : Int)]) ([Value.int IntKind.i64 (1 : Int)])) /\ ((Plain [Value.int IntKind.i64 (1 : Int)]) /\ ((Eq (α := List Value)
  (bCells y) (bCells y)) /\ ((Plain (bCells y)) /\ (((0 : Int) = (0 : Int)) /\ (((4096 : Int) = (4096 : Int)) /\ (((0 : Int) = (0 : Int)) /\ (((4096 : Int) = (4096 : Int))
  /\ ((Eq (α := List Value) (bCells w) (List.take ((Int.toNat (if Int.ofNat n < if (0 : Int) > N then (0 : Int) else N then Int.ofNat n else if (0 : Int) > N then (0 : Int)
  else N) - 0) * 1) (List.drop (k + 0) (bCells x)))) /\ ((Plain (bCells w)) /\ True))))))))))))))))))))))))))))))))))))))))))))))))))))))) False) False) False) False) False) := by kernel_rfl
theorem plO : Plain [.int .i64 1] := by
  intro v hv
  simp only [List.mem_cons, List.not_mem_nil, or_false] at hv
  rw [hv]; rfl
theorem OuQ_con (x y : List UInt8) (k n j : Nat) (N : Int) (hk : k + n = x.length) (hx : x.length ≤ 2000) (hN : 2000 ≤ N) : ConM Tryz.prog 16 [.pointer (some ⟨0, 0, none⟩), .int .i64 N] [cnQ k n, bOwn x, cp.rdB 6 j 0, unB 7, pkB 8, muQ, bOwn y, tbB, tbB] (.slice (some ⟨9, 0, none⟩) n 1) 10 [(0, cnQ (k + n) 0), (1, bOwn x), (2, cp.rdB 6 j 0), (3, unB 7), (4, pkB 8), (5, muQ), (6, bOwn y), (7, tbB), (8, tbB), (9, bOwn (x.drop k))] := by
  refine conM_vc (E := bk.E0) bk.mixed (calls_envN _) (lok_envN _) (M := noM) lm_none (OuQ_vc x (x.drop k) y k n j N) ?_
  have e0 : (if (0 : Int) > N then (0 : Int) else N) = N := if_neg (by omega)
  have e1 : (if ((n : Nat) : Int) < N then ((n : Nat) : Int) else N) = ((n : Nat) : Int) := by split <;> omega
  have e2 : (x.drop k).take n = x.drop k := List.take_of_length_le (by rw [List.length_drop]; omega)
  simp only [ofNat_eq, toNat_cast, Nat.zero_add, Nat.add_zero, Nat.mul_one, List.drop_zero, bCells_len, bCells_drop, bCells_take, bCells_app, bCells_one, bCells_plain, List.length_replicate, List.length_append, List.length_take, List.length_drop, List.take_length, and_true, true_and, and_self, decide_true, List.length_nil, List.length_cons, Nat.sub_zero, dB_mk, dB_ro, List.take_zero, e0, e1, Int.toNat_natCast, e2]
  exact br_dec (by omega) (br_dec (by omega) (br_b rfl (br_dec (by omega) (br_dec (by omega) ⟨by omega, plO⟩))))
theorem eOuQ_ok : EntOk Tryz.prog eOuQ := by
  intro a rows p v n' rl h hp
  unfold eOuQ at h
  simp only at h
  split at h
  · split at h
    · simp only [Option.some.injEq, Prod.mk.injEq] at h
      obtain ⟨rfl, rfl, rfl, rfl⟩ := h
      obtain ⟨e0, ⟨x, rfl, hk, hx, hN⟩, ⟨rfl, rfl, rfl, rfl, rfl, rfl⟩, rfl, rfl, rfl, ⟨y, rfl⟩, rfl, rfl⟩ := hp
      rw [e0]
      unfold woZ; rw [sealV_eq, dB_own]
      exact OuQ_con x y _ _ _ _ hk hx hN
    · simp at h
  · simp at h
end Go.Proofs.YtcallecdjebojaaGreat.cg
