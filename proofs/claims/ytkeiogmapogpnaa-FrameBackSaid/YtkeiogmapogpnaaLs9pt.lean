/- A frame behind bytes: the program's. -/
import Derived.Test.YtkeiogmapogpnaaSz9
import Derived.Test.YtkeiogmapogpnaaRows
import Derived.Test.YtkeiogmapogpnaaLs9
set_option linter.unusedSimpArgs false
set_option linter.unusedVariables false
namespace Go.Proofs.Ytkeiogmapogpnaa.s9
open Go Go.Ev Go.Sy Go.RowKit
def by8 (n : Int) : UInt8 := UInt8.ofNat (IntKind.u8.wrap n).toNat
def headB (n : Nat) (t f s : Int) : List UInt8 := [by8 (ishr .i64 (n : Int) 16), by8 (ishr .i64 (n : Int) 8), by8 (n : Int), by8 t, by8 f, by8 (ishr .i64 s 24), by8 (ishr .i64 s 16), by8 (ishr .i64 s 8), by8 s]
def frO (b p : List UInt8) (t f s : Int) : List UInt8 := if rightB t f s p.length then b ++ headB p.length t f s ++ p else b
theorem put_vc (b p o : List UInt8) (t f s : Int) : mcall EF noM 60 11 [slc 0 b.length, frV t f s 1 p.length] ⟨mkR (nums 0 [bRo b, bRo p]), 2⟩ (retIs 2 (slc 2 o.length) [bRo b, bRo p, bOwn o]) =
  (((((True /\ (True /\ (True /\ ((0 + List.length p * 1 <= List.length (bCells p) /\ Plain (List.take (List.length p * 1) (List.drop 0 (bCells p)))) /\ True)))) /\ True) /\
  (True /\ IsB (Row.mk (List.take (List.length p * 1) (List.drop 0 (bCells p))) true (Ob.cells true)) (List.length p)))) /\ (br (!rightB t f s (List.length p)) (br (decide
  (0 + List.length b * 1 <= List.length (bCells b))) (br (allOne (List.take (List.length b * 1) (List.drop 0 (bCells b)))) (br (decide (List.length b <= 16777216)) ((0 = 0)
  /\ ((List.length o = List.length b) /\ ((Eq (α := List Value) (bCells b) (bCells b)) /\ ((Plain (bCells b)) /\ ((Eq (α := List Value) (bCells p) (bCells p)) /\ ((Plain
  (bCells p)) /\ ((Eq (α := List Value) (bCells o) (List.take (List.length b * 1) (List.drop 0 (bCells b)))) /\ ((Plain (bCells o)) /\ True)))))))) False) False) False) (br
  (decide ((0 : Int) <= (0 : Int) /\ (0 : Int) <= IntKind.wrap IntKind.i64 (IntKind.wrap IntKind.i64 (Int.ofNat (List.length b) + (9 : Int)) + Int.ofNat (List.length p)) /\
  IntKind.wrap IntKind.i64 (IntKind.wrap IntKind.i64 (Int.ofNat (List.length b) + (9 : Int)) + Int.ofNat (List.length p)) <= (16777216 : Int))) (br (decide (0 + List.length
  b * 1 <= List.length (bCells b))) (br (allOne (List.take (List.length b * 1) (List.drop 0 (bCells b)))) (br (decide (0 + List.length b <= 16777216)) (br (decide (0 < 0 +
  List.length b ∨ List.length (List.replicate (Int.toNat (IntKind.wrap IntKind.i64 (IntKind.wrap IntKind.i64 (Int.ofNat (List.length b) + (9 : Int)) + Int.ofNat (List.length
  p)))) (Value.int IntKind.u8 (0 : Int))) = 0)) (br (decide (0 + List.length b + 5 <= 16777216)) (br (decide (0 + (0 + List.length b) * 1 <= List.length ([] ++ List.take
  (List.length b * 1) (List.drop 0 (bCells b))))) (br (decide (0 + List.length b + 5 + 4 <= 16777216)) (br (decide (0 + (0 + List.length b + 5) * 1 <= List.length (List.take
  ((0 + List.length b) * 1) (List.drop 0 ([] ++ List.take (List.length b * 1) (List.drop 0 (bCells b)))) ++ [Value.int IntKind.u8 (IntKind.wrap IntKind.u8 (ishr IntKind.i64
  (Int.ofNat (List.length p)) (16 : Int))), Value.int IntKind.u8 (IntKind.wrap IntKind.u8 (ishr IntKind.i64 (Int.ofNat (List.length p)) (8 : Int))), Value.int IntKind.u8
  (IntKind.wrap IntKind.u8 (Int.ofNat (List.length p))), Value.int IntKind.u8 (IntKind.wrap IntKind.u8 t), Value.int IntKind.u8 (IntKind.wrap IntKind.u8 f)]))) (br (decide
  (0 + List.length p * 1 <= List.length (bCells p))) (br (allOne (List.take (List.length p * 1) (List.drop 0 (bCells p)))) (br (decide (0 + List.length b + 5 + 4 +
  List.length p <= 16777216)) (br (decide (0 < 0 + List.length b + 5 + 4 + List.length p ∨ List.length (List.take ((0 + List.length b + 5) * 1) (List.drop 0 (List.take ((0 +
  List.length b) * 1) (List.drop 0 ([] ++ List.take (List.length b * 1) (List.drop 0 (bCells b)))) ++ [Value.int IntKind.u8 (IntKind.wrap IntKind.u8 (ishr IntKind.i64
  (Int.ofNat (List.length p)) (16 : Int))), Value.int IntKind.u8 (IntKind.wrap IntKind.u8 (ishr IntKind.i64 (Int.ofNat (List.length p)) (8 : Int))), Value.int IntKind.u8
  (IntKind.wrap IntKind.u8 (Int.ofNat (List.length p))), Value.int IntKind.u8 (IntKind.wrap IntKind.u8 t), Value.int IntKind.u8 (IntKind.wrap IntKind.u8 f)])) ++ [Value.int
  IntKind.u8 (IntKind.wrap IntKind.u8 (ishr IntKind.i64 s (24 : Int))), Value.int IntKind.u8 (IntKind.wrap IntKind.u8 (ishr IntKind.i64 s (16 : Int))), Value.int IntKind.u8
  (IntKind.wrap IntKind.u8 (ishr IntKind.i64 s (8 : Int))), Value.int IntKind.u8 (IntKind.wrap IntKind.u8 s)]) = 0)) (br (decide (0 + (0 + List.length b + 5 + 4) * 1 <=
  List.length (List.take ((0 + List.length b + 5) * 1) (List.drop 0 (List.take ((0 + List.length b) * 1) (List.drop 0 ([] ++ List.take (List.length b * 1) (List.drop 0
  (bCells b)))) ++ [Value.int IntKind.u8 (IntKind.wrap IntKind.u8 (ishr IntKind.i64 (Int.ofNat (List.length p)) (16 : Int))), Value.int IntKind.u8 (IntKind.wrap IntKind.u8
  (ishr IntKind.i64 (Int.ofNat (List.length p)) (8 : Int))), Value.int IntKind.u8 (IntKind.wrap IntKind.u8 (Int.ofNat (List.length p))), Value.int IntKind.u8 (IntKind.wrap
  IntKind.u8 t), Value.int IntKind.u8 (IntKind.wrap IntKind.u8 f)])) ++ [Value.int IntKind.u8 (IntKind.wrap IntKind.u8 (ishr IntKind.i64 s (24 : Int))), Value.int IntKind.u8
  (IntKind.wrap IntKind.u8 (ishr IntKind.i64 s (16 : Int))), Value.int IntKind.u8 (IntKind.wrap IntKind.u8 (ishr IntKind.i64 s (8 : Int))), Value.int IntKind.u8
  (IntKind.wrap IntKind.u8 s)]))) ((0 = 0) /\ ((List.length o = 0 + List.length b + 5 + 4 + List.length p) /\ ((Eq (α := List Value) (bCells b) (bCells b)) /\ ((Plain
  (bCells b)) /\ ((Eq (α := List Value) (bCells p) (bCells p)) /\ ((Plain (bCells p)) /\ ((Eq (α := List Value) (bCells o) (List.take ((0 + List.length b + 5 + 4) * 1)
  (List.drop 0 (List.take ((0 + List.length b + 5) * 1) (List.drop 0 (List.take ((0 + List.length b) * 1) (List.drop 0 ([] ++ List.take (List.length b * 1) (List.drop 0
  (bCells b)))) ++ [Value.int IntKind.u8 (IntKind.wrap IntKind.u8 (ishr IntKind.i64 (Int.ofNat (List.length p)) (16 : Int))), Value.int IntKind.u8 (IntKind.wrap IntKind.u8
  (ishr IntKind.i64 (Int.ofNat (List.length p)) (8 : Int))), Value.int IntKind.u8 (IntKind.wrap IntKind.u8 (Int.ofNat (List.length p))), Value.int IntKind.u8 (IntKind.wrap
  IntKind.u8 t), Value.int IntKind.u8 (IntKind.wrap IntKind.u8 f)])) ++ [Value.int IntKind.u8 (IntKind.wrap IntKind.u8 (ishr IntKind.i64 s (24 : Int))), Value.int IntKind.u8
  (IntKind.wrap IntKind.u8 (ishr IntKind.i64 s (16 : Int))), Value.int IntKind.u8 (IntKind.wrap IntKind.u8 (ishr IntKind.i64 s (8 : Int))), Value.int IntKind.u8
  (IntKind.wrap IntKind.u8 s)])) ++ List.take (List.length p * 1) (List.drop 0 (bCells p)))) /\ ((Plain (bCells o)) /\ True)))))))) False) ((0 = 0) /\ ((List.length o = 0 +
  List.length b + 5 + 4) /\ ((Eq (α := List Value) (bCells b) (bCells b)) /\ ((Plain (bCells b)) /\ ((Eq (α := List Value) (bCells p) (bCells p)) /\ ((Plain (bCells p)) /\
  ((Eq (α := List Value) (bCells o) (List.take ((0 + List.length b + 5) * 1) (List.drop 0 (List.take ((0 + List.length b) * 1) (List.drop 0 ([] ++ List.take (List.length b *
  1) (List.drop 0 (bCells b)))) ++ [Value.int IntKind.u8 (IntKind.wrap IntKind.u8 (ishr IntKind.i64 (Int.ofNat (List.length p)) (16 : Int))), Value.int IntKind.u8
  (IntKind.wrap IntKind.u8 (ishr IntKind.i64 (Int.ofNat (List.length p)) (8 : Int))), Value.int IntKind.u8 (IntKind.wrap IntKind.u8 (Int.ofNat (List.length p))), Value.int
  IntKind.u8 (IntKind.wrap IntKind.u8 t), Value.int IntKind.u8 (IntKind.wrap IntKind.u8 f)])) ++ [Value.int IntKind.u8 (IntKind.wrap IntKind.u8 (ishr IntKind.i64 s (24 :
  Int))), Value.int IntKind.u8 (IntKind.wrap IntKind.u8 (ishr IntKind.i64 s (16 : Int))), Value.int IntKind.u8 (IntKind.wrap IntKind.u8 (ishr IntKind.i64 s (8 : Int))),
  Value.int IntKind.u8 (IntKind.wrap IntKind.u8 s)])) /\ ((Plain (bCells o)) /\ True))))))))) False) False) False) False) False) False) False) (br (decide (0 + List.length p
  * 1 <= List.length (bCells p))) (br (allOne (List.take (List.length p * 1) (List.drop 0 (bCells p)))) (br (decide (9 + List.length p <= 16777216)) (br (decide (0 < 9 +
  List.length p ∨ 9 = 0)) ((0 = 0) /\ ((List.length o = 9 + List.length p) /\ ((Eq (α := List Value) (bCells b) (bCells b)) /\ ((Plain (bCells b)) /\ ((Eq (α := List Value)
  (bCells p) (bCells p)) /\ ((Plain (bCells p)) /\ ((Eq (α := List Value) (bCells o) (Value.int IntKind.u8 (IntKind.wrap IntKind.u8 (ishr IntKind.i64 (Int.ofNat (List.length
  p)) (16 : Int))) :: Value.int IntKind.u8 (IntKind.wrap IntKind.u8 (ishr IntKind.i64 (Int.ofNat (List.length p)) (8 : Int))) :: Value.int IntKind.u8 (IntKind.wrap
  IntKind.u8 (Int.ofNat (List.length p))) :: Value.int IntKind.u8 (IntKind.wrap IntKind.u8 t) :: Value.int IntKind.u8 (IntKind.wrap IntKind.u8 f) :: Value.int IntKind.u8
  (IntKind.wrap IntKind.u8 (ishr IntKind.i64 s (24 : Int))) :: Value.int IntKind.u8 (IntKind.wrap IntKind.u8 (ishr IntKind.i64 s (16 : Int))) :: Value.int IntKind.u8
  (IntKind.wrap IntKind.u8 (ishr IntKind.i64 s (8 : Int))) :: Value.int IntKind.u8 (IntKind.wrap IntKind.u8 s) :: ([] ++ List.take (List.length p * 1) (List.drop 0 (bCells
  p))))) /\ ((Plain (bCells o)) /\ True)))))))) ((0 = 0) /\ ((List.length o = 9) /\ ((Eq (α := List Value) (bCells b) (bCells b)) /\ ((Plain (bCells b)) /\ ((Eq (α := List
  Value) (bCells p) (bCells p)) /\ ((Plain (bCells p)) /\ ((Eq (α := List Value) (bCells o) ([Value.int IntKind.u8 (IntKind.wrap IntKind.u8 (ishr IntKind.i64 (Int.ofNat
  (List.length p)) (16 : Int))), Value.int IntKind.u8 (IntKind.wrap IntKind.u8 (ishr IntKind.i64 (Int.ofNat (List.length p)) (8 : Int))), Value.int IntKind.u8 (IntKind.wrap
  IntKind.u8 (Int.ofNat (List.length p))), Value.int IntKind.u8 (IntKind.wrap IntKind.u8 t), Value.int IntKind.u8 (IntKind.wrap IntKind.u8 f), Value.int IntKind.u8
  (IntKind.wrap IntKind.u8 (ishr IntKind.i64 s (24 : Int))), Value.int IntKind.u8 (IntKind.wrap IntKind.u8 (ishr IntKind.i64 s (16 : Int))), Value.int IntKind.u8
  (IntKind.wrap IntKind.u8 (ishr IntKind.i64 s (8 : Int))), Value.int IntKind.u8 (IntKind.wrap IntKind.u8 s)])) /\ ((Plain (bCells o)) /\ True))))))))) False) False) False))
  False) False) False) False))) := by kernel_rfl
theorem cF_ok : ∀ f a rows p v news, cF f a rows = some (p, v, news) → p → Con Try.prog f a rows v (rows ++ news) := by
  intro f a rows p v news h hp
  unfold cF at h
  split at h <;> simp only [Option.some.injEq, Prod.mk.injEq, reduceCtorEq] at h <;> obtain ⟨rfl, rfl, rfl⟩ := h
  · obtain ⟨x, rfl, rfl⟩ := hp
    exact right_con _ _ _ x
  · exact con_run mixed (n := 1000000) (by kernel_rfl) (by kernel_rfl)
theorem by8_v (n : Int) : Value.int .u8 (IntKind.u8.wrap n) = bVal (by8 n) := by
  have h := wru8 n
  have h1 : 0 ≤ IntKind.u8.wrap n ∧ IntKind.u8.wrap n < 256 := by omega
  unfold bVal by8
  rw [u8_toNat_ofNat (by omega), Int.toNat_of_nonneg h1.1]
theorem headC (n : Nat) (t f s : Int) : [bVal (by8 (ishr .i64 (n : Int) 16)), bVal (by8 (ishr .i64 (n : Int) 8)), bVal (by8 (n : Int)), bVal (by8 t), bVal (by8 f), bVal (by8 (ishr .i64 s 24)), bVal (by8 (ishr .i64 s 16)), bVal (by8 (ishr .i64 s 8)), bVal (by8 s)] = bCells (headB n t f s) := rfl
theorem head_len (n : Nat) (t f s : Int) : (headB n t f s).length = 9 := rfl
theorem brT {P : Prop} {d : Decidable P} (h : P) (X : Prop) : br (@decide P d) X False = X := by rw [decide_eq_true h]; rfl
theorem brTt (X : Prop) : br true X False = X := rfl
theorem put_con (b p : List UInt8) (t f s : Int) (hb : b.length ≤ 2000000) (hp : p.length ≤ 1000000) : Con Try.prog 11 [slc 0 b.length, frV t f s 1 p.length] [bRo b, bRo p] (slc 2 (frO b p t f s).length) [bRo b, bRo p, bOwn (frO b p t f s)] := by
  obtain ⟨o, ho⟩ : ∃ o, o = frO b p t f s := ⟨_, rfl⟩
  rw [← ho]
  refine con_vc (E := EF) mixed (calls_envC cF_ok) (lok_envC _ _ _) (M := noM) lm_none (put_vc b p o t f s) ?_
  have w1 : IntKind.i64.wrap ((b.length : Int) + 9) = ((b.length + 9 : Nat) : Int) := by rw [wr64_id (by unfold I64; omega)]; omega
  have w2 : IntKind.i64.wrap (((b.length + 9 : Nat) : Int) + (p.length : Int)) = ((b.length + 9 + p.length : Nat) : Int) := by rw [wr64_id (by unfold I64; omega)]; omega
  simp only [ofNat_eq, toNat_cast, Nat.zero_add, Nat.add_zero, Nat.mul_one, List.drop_zero, bCells_len, bCells_drop, bCells_take, bCells_app, bCells_one, bCells_plain, List.length_replicate, List.length_append, List.length_take, List.length_drop, List.take_length, and_true, true_and, and_self, decide_true, List.length_nil, List.length_cons, Nat.sub_zero, dB_mk, dB_ro, List.take_zero, w1, w2, by8_v, toNat_cast]
  have tk1 : ∀ x : List Value, (bCells b ++ x).take b.length = bCells b := fun x => by
    have := List.take_left (l₁ := bCells b) (l₂ := x); rwa [bCells_len] at this
  have tk0 : (bCells b).take b.length = bCells b := List.take_of_length_le (by rw [bCells_len]; omega)
  have tk2 : ∀ x : List UInt8, x.length = 9 → (bCells (b ++ x)).take (b.length + 9) = bCells (b ++ x) := fun x hx => List.take_of_length_le (by rw [bCells_len, List.length_append, hx]; omega)
  simp (disch := omega) only [brT, brTt, List.nil_append, tk0]
  have hno : rightB t f s p.length = false → o = b := fun h => by rw [ho]; unfold frO; rw [if_neg (by simp [h])]
  have hyes : rightB t f s p.length = true → o = b ++ headB p.length t f s ++ p := fun h => by rw [ho]; unfold frO; rw [if_pos h]
  have t5 : ∀ x : List Value, x.length = 5 → (bCells b ++ x).take (b.length + 5) = bCells b ++ x := fun x hx => List.take_of_length_le (by rw [List.length_append, bCells_len, hx]; omega)
  have t9 : ∀ x y : List Value, x.length = 5 → y.length = 4 → (bCells b ++ x ++ y).take (b.length + 5 + 4) = bCells b ++ x ++ y := fun x y hx hy => List.take_of_length_le (by rw [List.length_append, List.length_append, bCells_len, hx, hy]; omega)
  have t8 : ∀ x : List Value, x.length = 9 → (bCells b ++ x).take (b.length + 9) = bCells b ++ x := fun x hx => List.take_of_length_le (by rw [List.length_append, bCells_len, hx]; omega)
  have hb9 : ∀ b' : List UInt8, bCells (b' ++ headB p.length t f s ++ p) = bCells b' ++ (bCells (headB p.length t f s) ++ bCells p) := fun b' => by rw [← bCells_app, ← bCells_app, List.append_assoc]
  refine ⟨⟨Nat.le_refl _, isB_mk _ _ rfl⟩, br_intro (fun hr => ?_) (fun hr => ?_)⟩
  · have := hno (by simpa using hr)
    rw [this]; exact ⟨rfl, rfl⟩
  have ho2 := hyes (by simpa using hr)
  refine br_if (fun hb0 => br_dec (by omega) ?_) (fun hb0 => br_dec (by omega) ?_)
  · rw [t5 _ rfl, t9 _ _ rfl rfl, ho2]
    refine ⟨by simp only [List.length_append, head_len], ?_⟩
    rw [hb9, ← headC]; simp
  · have : b = [] := List.eq_nil_of_length_eq_zero (by omega)
    subst this
    rw [ho2]
    refine ⟨by simp only [List.length_append, head_len, List.length_nil]; try omega, ?_⟩
    rw [hb9, ← headC]
    rfl
end Go.Proofs.Ytkeiogmapogpnaa.s9
