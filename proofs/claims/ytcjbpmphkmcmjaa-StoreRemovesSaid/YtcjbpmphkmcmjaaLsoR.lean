/- StoreOldest: pages of one size, the last touched stay. -/
import Derived.Test.YtcjbpmphkmcmjaaSz9
import Derived.Test.YtcjbpmphkmcmjaaRows
import Derived.Test.YtcjbpmphkmcmjaaLsoQ
import Derived.Test.YtcjbpmphkmcmjaaLwit
import Derived.Test.YtcjbpmphkmcmjaaLsbook
set_option maxRecDepth 20000
set_option linter.unusedSimpArgs false
set_option linter.unusedVariables false
namespace Go.Proofs.Ytcjbpmphkmcmjaa.so
open Go Go.Ev Go.Sy Go.RowKit Go.Proofs.Ytcjbpmphkmcmjaa.gl Go.Proofs.Ytcjbpmphkmcmjaa.tk Go.Proofs.Ytcjbpmphkmcmjaa.cp Go.Proofs.Ytcjbpmphkmcmjaa.ic
noncomputable def eRunsO : EntM := entC 3 fun a r => match a, r with
  | [], [] => some (True, .bool true, [])
  | _, _ => none
noncomputable def eWiO : EntM := entC 29 fun a r => match a, r with
  | [.int .i64 n, .int .i64 lo, .int .i64 hi], [] => some (I64 n ∧ -1000000000000 ≤ lo ∧ hi ≤ 1000000000000 ∧ lo ≤ hi, .int .i64 (inside n lo hi), [])
  | _, _ => none
noncomputable def eSmO : EntM := entC 16 fun a r => match a, r with
  | [.slice (some ⟨0, 0, none⟩) n 1, .slice (some ⟨1, 0, none⟩) m 1], [r0, r1] => some (IsS r0 n ∧ IsS r1 m ∧ n ≤ 9223372036854775807, .bool (Go.Proofs.Ytcjbpmphkmcmjaa.sb.sameR r0 r1), [])
  | _, _ => none
def getB : ByteArray := bs [71, 69, 84]
def htB : ByteArray := bs [104, 116, 116, 112]
def slB : ByteArray := bs [47]
noncomputable def pgE (A : ByteArray) : En := ⟨⟨getB, htB, A, slB, 0, 0, 0, .empty, 0, 0⟩, [], []⟩
noncomputable def fl (K : List UInt8) (w : List (List UInt8)) : List (List UInt8) := w.filter fun x => decide (x ≠ K)
noncomputable def was (K : List UInt8) (w : List (List UInt8)) : Bool := w.any fun x => decide (x = K)
structure GOl where
  l : List Int
  n : Int
  c : Int
structure TOl where
  s : SS
  w : List (List UInt8)
  j : Nat
  x : List (List UInt8)
structure GOi where
  l : List Int
  n : Int
  s : SS
  w : List (List UInt8)
  j : Int
  a : ByteArray
  b : ByteArray
  K : List UInt8
  th : Bool
  x : List (List UInt8)
theorem eRunsO_ok : EntOk Try.prog eRunsO := entC_ok (by
  intro a rows p v news h hp
  split at h <;> simp only [Option.some.injEq, Prod.mk.injEq, reduceCtorEq] at h
  obtain ⟨rfl, rfl, rfl⟩ := h
  exact con_run mixed (n := 1000000) (by kernel_rfl) (by kernel_rfl))
theorem eWiO_ok : EntOk Try.prog eWiO := entC_ok (by
  intro a rows p v news h hp
  split at h <;> simp only [Option.some.injEq, Prod.mk.injEq, reduceCtorEq] at h
  obtain ⟨rfl, rfl, rfl⟩ := h
  exact Go.Proofs.Ytcjbpmphkmcmjaa.tk.within_con _ _ _ hp.1 hp.2.1 hp.2.2.1 hp.2.2.2)
theorem eSmO_ok : EntOk Try.prog eSmO := entC_ok (by
  intro a rows p v news h hp
  split at h <;> simp only [Option.some.injEq, Prod.mk.injEq, reduceCtorEq] at h
  obtain ⟨rfl, rfl, rfl⟩ := h
  obtain ⟨⟨x, rfl, rfl⟩, ⟨y, rfl, rfl⟩, hl⟩ := hp
  rw [List.append_nil]
  unfold gRo
  rw [Go.Proofs.Ytcjbpmphkmcmjaa.sb.sameR_gC]
  exact Go.Proofs.Ytcjbpmphkmcmjaa.sb.same_con x y hl)
theorem fl_le (K : List UInt8) (w : List (List UInt8)) : (fl K w).length ≤ w.length := List.length_filter_le _ _
theorem key_inj {A B : ByteArray} (h : keyE (pgE A) = keyE (pgE B)) : A = B := by
  have h : keyV htB A slB = keyV htB B slB := h
  rw [z_key, z_key] at h
  obtain ⟨a, rfl⟩ : ∃ l, A = bs l := ⟨L A, rfl⟩
  obtain ⟨b, rfl⟩ : ∃ l, B = bs l := ⟨L B, rfl⟩
  unfold sepB htB slB at h
  simp only [bs_app] at h
  have h := bs_inj h
  simp only [List.append_assoc] at h
  have h := List.append_cancel_right (List.append_cancel_left (List.append_cancel_left h))
  rw [h]
theorem mat0 : matL [] [] [] = true := by decide +kernel
theorem mt_pg (A B : ByteArray) : mtV (keyE (pgE A)) [] (pgE B) = decide (B = A) := by
  unfold mtV
  rw [show (pgE B).e = [] from rfl, show (pgE B).r = [] from rfl, mat0, Bool.and_true]
  exact decide_eq_decide.2 ⟨key_inj, fun h => by rw [h]⟩
noncomputable def kk (ks : List ByteArray) : List (List UInt8) := ks.map fun B => L (keyE (pgE B))
theorem keyL_eq (A B : ByteArray) : (L (keyE (pgE B)) = L (keyE (pgE A))) ↔ B = A := ⟨fun h => key_inj (by have := congrArg bs h; exact this), fun h => by rw [h]⟩
theorem fl_pg (A : ByteArray) (ks : List ByteArray) : fl (L (keyE (pgE A))) (kk ks) = kk (ks.filter fun B => decide (B ≠ A)) := by
  unfold fl kk
  rw [List.filter_map]
  refine congrArg _ (List.filter_congr fun B _ => ?_)
  simp only [Function.comp]
  exact decide_eq_decide.2 (not_congr (keyL_eq A B))
def nx (ks : List ByteArray) (A : ByteArray) (n : Nat) : List ByteArray := (A :: ks.filter fun B => decide (B ≠ A)).take n
end Go.Proofs.Ytcjbpmphkmcmjaa.so
