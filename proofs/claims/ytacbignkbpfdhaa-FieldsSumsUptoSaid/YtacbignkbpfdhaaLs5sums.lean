/- The law of what two lists of fields take. -/
import Derived.Test.YtacbignkbpfdhaaSz9
import Derived.Test.YtacbignkbpfdhaaRows
import Derived.Test.YtacbignkbpfdhaaLs5
set_option linter.unusedSimpArgs false
set_option linter.unusedVariables false
namespace Go.Proofs.Ytacbignkbpfdhaa.s5
open Go Go.Ev Go.Sy Go.RowKit
def decF : List Value → List Fd
  | .string a :: .string b :: r => ⟨a, b⟩ :: decF r
  | _ => []
def totR (r : Row) : Nat := tot (decF r.cells)
def IsFd (r : Row) (n : Nat) : Prop := ∃ l, r = fdRo l ∧ n = l.length
def cS : FuncId → List Value → List Row → Option (Prop × Value × List Row)
  | 10, [.slice (some ⟨0, 0, none⟩) n 2], [r0] => some (IsFd r0 n ∧ n ≤ maxLen ∧ totR r0 ≤ 4611686018427387904, .int .i64 (totR r0 : Nat), [])
  | 3, [], [] => some (True, .bool true, [])
  | _, _, _ => none
def kS (f : FuncId) : Bool := Nat.beq f 10 || Nat.beq f 3
noncomputable abbrev ES : Env := envC Try.prog cS kS
theorem sums_vc (a b : List Fd) : mcall ES noM 60 6 [.slice (some ⟨0, 0, none⟩) a.length 2, .slice (some ⟨1, 0, none⟩) b.length 2] ⟨mkR (nums 0 [fdRo a, fdRo b]), 2⟩ (retIs 2 (.bool true) [fdRo a, fdRo b]) =
  ((((((0 : Nat) + List.length a * (2 : Nat) ≤ List.length (fdCells a) ∧ Plain (List.take (List.length a * (2 : Nat)) (List.drop (0 : Nat) (fdCells a)))) ∧ True) ∧ (True ∧ (IsFd (Row.mk (List.take (List.length a * (2 : Nat)) (List.drop (0 : Nat) (fdCells a))) true (Ob.cells true)) (List.length a) ∧ (List.length a ≤ (9223372036854775807 : Nat) ∧ totR (Row.mk (List.take (List.length a * (2 : Nat)) (List.drop (0 : Nat) (fdCells a))) true (Ob.cells true)) ≤ (4611686018427387904 : Nat)))))) ∧
  ((((((0 : Nat) + List.length b * (2 : Nat) ≤ List.length (fdCells b) ∧ Plain (List.take (List.length b * (2 : Nat)) (List.drop (0 : Nat) (fdCells b)))) ∧ True) ∧ (True ∧ (IsFd (Row.mk (List.take (List.length b * (2 : Nat)) (List.drop (0 : Nat) (fdCells b))) true (Ob.cells true)) (List.length b) ∧ (List.length b ≤ (9223372036854775807 : Nat) ∧ totR (Row.mk (List.take (List.length b * (2 : Nat)) (List.drop (0 : Nat) (fdCells b))) true (Ob.cells true)) ≤ (4611686018427387904 : Nat)))))) ∧
  (br (decide ((0 : Nat) + List.length a * (2 : Nat) ≤ List.length (fdCells a)))
   (br (allOne (List.take (List.length a * (2 : Nat)) (List.drop (0 : Nat) (fdCells a))))
    (br (decide ((0 : Nat) + List.length a ≤ (16777216 : Nat)))
     (br (decide ((0 : Nat) < (0 : Nat) + List.length a ∨ List.length (List.flatten (List.replicate (0 : Nat) (Array.toList (Value.cells (Value.agg #[Value.string (ByteArray.mk #[]), Value.string (ByteArray.mk #[])]))))) = (0 : Nat)))
      (br (decide ((0 : Nat) + List.length b * (2 : Nat) ≤ List.length (fdCells b)))
       (br (allOne (List.take (List.length b * (2 : Nat)) (List.drop (0 : Nat) (fdCells b))))
        (br (decide ((0 : Nat) + List.length a + List.length b ≤ (16777216 : Nat)))
         (br (decide ((0 : Nat) < (0 : Nat) + List.length a + List.length b ∨ List.length ([] ++ List.take (List.length a * (2 : Nat)) (List.drop (0 : Nat) (fdCells a))) = (0 : Nat)))
          (br (decide ((0 : Nat) + ((0 : Nat) + List.length a) * (2 : Nat) ≤ List.length ([] ++ List.take (List.length a * (2 : Nat)) (List.drop (0 : Nat) (fdCells a)))))
           ((((((0 : Nat) + ((0 : Nat) + List.length a + List.length b) * (2 : Nat) ≤ List.length (List.take (((0 : Nat) + List.length a) * (2 : Nat)) (List.drop (0 : Nat) ([] ++ List.take (List.length a * (2 : Nat)) (List.drop (0 : Nat) (fdCells a)))) ++ List.take (List.length b * (2 : Nat)) (List.drop (0 : Nat) (fdCells b))) ∧ Plain (List.take (((0 : Nat) + List.length a + List.length b) * (2 : Nat)) (List.drop (0 : Nat) (List.take (((0 : Nat) + List.length a) * (2 : Nat)) (List.drop (0 : Nat) ([] ++ List.take (List.length a * (2 : Nat)) (List.drop (0 : Nat) (fdCells a)))) ++ List.take (List.length b * (2 : Nat)) (List.drop (0 : Nat) (fdCells b)))))) ∧ True) ∧ (True ∧ (IsFd (Row.mk (List.take (((0 : Nat) + List.length a + List.length b) * (2 : Nat)) (List.drop (0 : Nat) (List.take (((0 : Nat) + List.length a) * (2 : Nat)) (List.drop (0 : Nat) ([] ++ List.take (List.length a * (2 : Nat)) (List.drop (0 : Nat) (fdCells a)))) ++ List.take (List.length b * (2 : Nat)) (List.drop (0 : Nat) (fdCells b))))) true (Ob.cells true)) ((0 : Nat) + List.length a + List.length b) ∧ ((0 : Nat) + List.length a + List.length b ≤ (9223372036854775807 : Nat) ∧ totR (Row.mk (List.take (((0 : Nat) + List.length a + List.length b) * (2 : Nat)) (List.drop (0 : Nat) (List.take (((0 : Nat) + List.length a) * (2 : Nat)) (List.drop (0 : Nat) ([] ++ List.take (List.length a * (2 : Nat)) (List.drop (0 : Nat) (fdCells a)))) ++ List.take (List.length b * (2 : Nat)) (List.drop (0 : Nat) (fdCells b))))) true (Ob.cells true)) ≤ (4611686018427387904 : Nat)))))) ∧
           (br ((↑(totR (Row.mk (List.take (((0 : Nat) + List.length a + List.length b) * (2 : Nat)) (List.drop (0 : Nat) (List.take (((0 : Nat) + List.length a) * (2 : Nat)) (List.drop (0 : Nat) ([] ++ List.take (List.length a * (2 : Nat)) (List.drop (0 : Nat) (fdCells a)))) ++ List.take (List.length b * (2 : Nat)) (List.drop (0 : Nat) (fdCells b))))) true (Ob.cells true))) : Int) == IntKind.wrap IntKind.i64 ((↑(totR (Row.mk (List.take (List.length a * (2 : Nat)) (List.drop (0 : Nat) (fdCells a))) true (Ob.cells true))) : Int) + (↑(totR (Row.mk (List.take (List.length b * (2 : Nat)) (List.drop (0 : Nat) (fdCells b))) true (Ob.cells true))) : Int)))
            (br (decide ((↑(totR (Row.mk (List.take (List.length a * (2 : Nat)) (List.drop (0 : Nat) (fdCells a))) true (Ob.cells true))) : Int) ≥ IntKind.wrap IntKind.i64 ((32 : Int) * Int.ofNat (List.length a))))
             (((True ∧ (True ∧ True))) ∧
             ((true = true) ∧
             ((Eq (α := List Value) (fdCells a) (fdCells a)) ∧
             ((Plain (fdCells a)) ∧
             ((Eq (α := List Value) (fdCells b) (fdCells b)) ∧
             ((Plain (fdCells b)) ∧
             True))))))
             ((true = false) ∧
             ((Eq (α := List Value) (fdCells a) (fdCells a)) ∧
             ((Plain (fdCells a)) ∧
             ((Eq (α := List Value) (fdCells b) (fdCells b)) ∧
             ((Plain (fdCells b)) ∧
             True))))))
            ((true = false) ∧
            ((Eq (α := List Value) (fdCells a) (fdCells a)) ∧
            ((Plain (fdCells a)) ∧
            ((Eq (α := List Value) (fdCells b) (fdCells b)) ∧
            ((Plain (fdCells b)) ∧
            True)))))))
           False)
          False)
         False)
        False)
       False)
      False)
     False)
    False)
   False))) := by kernel_rfl
theorem decF_cells : ∀ l : List Fd, decF (fdCells l) = l
  | [] => rfl
  | s :: l => by
    have := decF_cells l
    unfold fdCells at this ⊢
    rw [List.flatMap_cons]
    show _ :: decF (l.flatMap fdC) = _
    rw [this]
theorem totR_mk (l : List Fd) (a : Bool) (o : Ob) : totR ⟨fdCells l, a, o⟩ = tot l := by unfold totR; rw [decF_cells]
theorem isFd_mk (l : List Fd) (n : Nat) (h : n = l.length) : IsFd ⟨fdCells l, true, .cells true⟩ n := ⟨l, rfl, h⟩
set_option maxRecDepth 4000 in
theorem cS_ok : ∀ f a rows p v news, cS f a rows = some (p, v, news) → p → Con Try.prog f a rows v (rows ++ news) := by
  intro f a rows p v news h hp
  unfold cS at h
  split at h <;> simp only [Option.some.injEq, Prod.mk.injEq, reduceCtorEq] at h <;> obtain ⟨rfl, rfl, rfl⟩ := h
  · obtain ⟨⟨l, rfl, rfl⟩, hl, ht⟩ := hp
    have e : totR (fdRo l) = tot l := totR_mk _ _ _
    rw [e] at ht ⊢
    rw [List.append_nil]
    exact sum_con l hl ht
  · exact con_run mixed (n := 1000000) (by kernel_rfl) (by kernel_rfl)
theorem sums_con (a b : List Fd) (ha : a.length ≤ 1048576) (hb : b.length ≤ 1048576) (ha2 : tot a ≤ 1073741824) (hb2 : tot b ≤ 1073741824) :
    Con Try.prog 6 [.slice (some ⟨0, 0, none⟩) a.length 2, .slice (some ⟨1, 0, none⟩) b.length 2] [fdRo a, fdRo b] (.bool true) [fdRo a, fdRo b] := by
  refine con_vc (E := ES) mixed (calls_envC cS_ok) (lok_envC _ _ _) (M := noM) lm_none (sums_vc a b) ?_
  have hm : maxLen = 9223372036854775807 := by unfold maxLen; rfl
  have hA : ∀ l : List Fd, fdCells a ++ fdCells b = fdCells (a ++ b) := fun _ => by simp [fdCells]
  have e0 : ∀ l : List Fd, (fdCells l).take (l.length * 2) = fdCells l := fun l => List.take_of_length_le (by rw [fdC_len]; omega)
  simp only [ofNat_eq, toNat_cast, Nat.zero_add, Nat.add_zero, Nat.mul_one, List.drop_zero, bCells_len, bCells_drop, bCells_take, bCells_app, bCells_one, bCells_plain, List.length_replicate, List.length_append, List.length_take, List.length_drop, List.take_length, and_true, true_and, and_self, decide_true, List.length_nil, List.length_cons, Nat.sub_zero, dB_mk, dB_ro, List.take_zero, fdC_plain, e0, hA a, fdC_len, List.nil_append, totR_mk]
  have e : List.take ((a.length + b.length) * 2) (fdCells (a ++ b)) = fdCells (a ++ b) := List.take_of_length_le (by rw [fdC_len]; simp)
  have hO : ∀ l : List Fd, allOne (fdCells l) = true := fun l => by
    induction l with
    | nil => rfl
    | cons s l ih => exact ih
  have hl : (List.replicate 0 (Value.agg #[Value.string { data := #[] }, Value.string { data := #[] }]).cells.toList).flatten.length = 0 := rfl
  have q1 := isFd_mk a a.length rfl
  have q2 := isFd_mk b b.length rfl
  have q3 := isFd_mk (a ++ b) (a.length + b.length) (by simp)
  have t1 := tot_app b a
  have t2 := tot_len a
  simp only [e, totR_mk, hO, fdC_plain, and_true, t1]
  rw [wr64_id (n := (tot a : Int) + (tot b : Int)) (by unfold I64; omega), wr64_id (n := 32 * (a.length : Int)) (by unfold I64; omega)]
  exact ⟨⟨by omega, q1, by omega, by omega⟩, ⟨by omega, q2, by omega, by omega⟩, br_dec (by omega) (br_b rfl (br_dec (by omega) (br_dec (.inr hl) (br_dec (by omega) (br_b rfl (br_dec (by omega) (br_dec (by omega) (br_dec (by omega) ⟨⟨by omega, q3, by omega, by omega⟩, br_b (by simp) (br_dec (by omega) trivial)⟩))))))))⟩
end Go.Proofs.Ytacbignkbpfdhaa.s5
