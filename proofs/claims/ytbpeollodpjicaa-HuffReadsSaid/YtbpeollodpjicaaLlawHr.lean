/- The law: any bytes read as a text, as the document says; they stay. -/
import Derived.Test.YtbpeollodpjicaaSz9
import Derived.Test.YtbpeollodpjicaaRows
import Derived.Test.YtbpeollodpjicaaLhfR
import Derived.Test.YtbpeollodpjicaaLrdA
set_option maxRecDepth 20000
set_option linter.unusedSimpArgs false
set_option linter.unusedVariables false
namespace Go.Proofs.Ytbpeollodpjicaa.md
open Go Go.Ev Go.Sy Go.RowKit Go.Proofs.Ytbpeollodpjicaa.gl Go.Proofs.Ytbpeollodpjicaa.tk Go.Proofs.Ytbpeollodpjicaa.hf
def u8i (m : Int) : UInt8 := UInt8.ofNat m.toNat
def IsU8 (m : Int) : Prop := ∃ b : UInt8, m = b.toNat
def pad80 (l : List UInt8) (m : UInt8) : List UInt8 := l ++ List.replicate 80 m
def padC (r : Row) (m : Int) : List Value := bCells (pad80 (dB r) (u8i m))
def inI (r0 r1 : Row) (k : Int) : Bool := decide (dB r0 = pad80 (dB r1) (u8i k))
noncomputable def eRdD : EntM := entC 20 fun a r => match a, r with
  | [.slice (some ⟨0, 0, none⟩) n 1], [r0] => some (IsB r0 n ∧ n ≤ 1048576, .tuple #[.string (dtZ r0), .int .i64 (deZ r0)], [])
  | _, _ => none
noncomputable def eRoo : EntM := entC 19 fun a r => match a, r with
  | [.slice (some ⟨0, 0, none⟩) n 1, .int .u8 m], [r0] => some (IsB r0 n ∧ IsU8 m ∧ n ≤ 16777136, slc 1 (n + 80), [⟨padC r0 m, false, .cells true⟩])
  | _, _ => none
noncomputable def eIntB : EntM := entC 21 fun a r => match a, r with
  | [.slice (some ⟨0, 0, none⟩) n 1, .slice (some ⟨1, 0, none⟩) m 1, .int .u8 k], [r0, r1] => some (IsB r0 n ∧ IsB r1 m ∧ IsU8 k ∧ n ≤ maxLen ∧ m ≤ 9223372036854775000, .bool (inI r0 r1 k), [])
  | _, _ => none
noncomputable def eRunsHR : EntM := entC 3 fun a r => match a, r with
  | [], [] => some (True, .bool true, [])
  | _, _ => none
noncomputable def tHr : List EntM := [eDec, eRdD, eRoo, eIntB, eRunsHR]
noncomputable abbrev EtHr : Env := envT Try.prog tHr
theorem Hr_vc (l : List UInt8) : mcall EtHr noM 60 5 [slc 0 l.length] ⟨mkR (nums 0 [bRo l]), 1⟩ (retIs 1 (.bool true) [bRo l]) =
  (br (decide (Int.ofNat (List.length l) > (200 : Int))) (br (decide ((0 : Int) <= (↑0 : Int) /\ (↑0 : Int) <= (200 : Int) /\ (200 : Int) <= (↑(List.length l) : Int)))
  (((((200 <= List.length (bCells l) /\ Plain (List.take 200 (List.drop 0 (bCells l)))) /\ (True /\ True)) /\ ((True /\ True) /\ ((Plain (padC (Row.mk (List.take 200
  (List.drop 0 (bCells l))) true (Ob.cells true)) (77 : Int)) /\ True) /\ (IsB (Row.mk (List.take 200 (List.drop 0 (bCells l))) true (Ob.cells true)) 200 /\ (IsU8 (77 : Int)
  /\ Int.toNat (200 : Int) - Int.toNat (↑0 : Int) <= 16777136)))))) /\ (((((200 <= List.length (padC (Row.mk (List.take 200 (List.drop 0 (bCells l))) true (Ob.cells true))
  (77 : Int)) /\ Plain (List.take 200 (List.drop 0 (padC (Row.mk (List.take 200 (List.drop 0 (bCells l))) true (Ob.cells true)) (77 : Int))))) /\ True) /\ ((True /\ True) /\
  (True /\ (IsB (Row.mk (List.take 200 (List.drop 0 (padC (Row.mk (List.take 200 (List.drop 0 (bCells l))) true (Ob.cells true)) (77 : Int)))) true (Ob.cells true)) 200 /\
  Int.toNat (Int.ofNat (Int.toNat (200 : Int) - Int.toNat (↑0 : Int))) - Int.toNat (↑0 : Int) <= 1048576))))) /\ (((((200 <= List.length (bCells l) /\ Plain (List.take 200
  (List.drop 0 (bCells l)))) /\ True) /\ ((True /\ True) /\ (True /\ (IsB (Row.mk (List.take 200 (List.drop 0 (bCells l))) true (Ob.cells true)) 200 /\ Int.toNat (200 : Int)
  - Int.toNat (↑0 : Int) <= 1048576))))) /\ (br (strEq (dtZ (Row.mk (List.take 200 (List.drop 0 (padC (Row.mk (List.take 200 (List.drop 0 (bCells l))) true (Ob.cells true))
  (77 : Int)))) true (Ob.cells true))) (dtZ (Row.mk (List.take 200 (List.drop 0 (bCells l))) true (Ob.cells true)))) (br (deZ (Row.mk (List.take 200 (List.drop 0 (padC
  (Row.mk (List.take 200 (List.drop 0 (bCells l))) true (Ob.cells true)) (77 : Int)))) true (Ob.cells true)) == deZ (Row.mk (List.take 200 (List.drop 0 (bCells l))) true
  (Ob.cells true))) (((((280 <= List.length (padC (Row.mk (List.take 200 (List.drop 0 (bCells l))) true (Ob.cells true)) (77 : Int)) /\ Plain (List.take 280 (List.drop 0
  (padC (Row.mk (List.take 200 (List.drop 0 (bCells l))) true (Ob.cells true)) (77 : Int))))) /\ ((200 <= List.length (bCells l) /\ Plain (List.take 200 (List.drop 0 (bCells
  l)))) /\ (True /\ True))) /\ ((True /\ (True /\ True)) /\ (True /\ (IsB (Row.mk (List.take 280 (List.drop 0 (padC (Row.mk (List.take 200 (List.drop 0 (bCells l))) true
  (Ob.cells true)) (77 : Int)))) true (Ob.cells true)) 280 /\ (IsB (Row.mk (List.take 200 (List.drop 0 (bCells l))) true (Ob.cells true)) 200 /\ (IsU8 (77 : Int) /\
  (Int.toNat (200 : Int) - Int.toNat (↑0 : Int) + 80 <= maxLen /\ Int.toNat (200 : Int) - Int.toNat (↑0 : Int) <= 9223372036854775000)))))))) /\ (br (inI (Row.mk (List.take
  280 (List.drop 0 (padC (Row.mk (List.take 200 (List.drop 0 (bCells l))) true (Ob.cells true)) (77 : Int)))) true (Ob.cells true)) (Row.mk (List.take 200 (List.drop 0
  (bCells l))) true (Ob.cells true)) (77 : Int)) (((True /\ (True /\ (True /\ True)))) /\ ((true = true) /\ ((Eq (α := List Value) (bCells l) (bCells l)) /\ ((Plain (bCells
  l)) /\ True)))) ((true = false) /\ ((Eq (α := List Value) (bCells l) (bCells l)) /\ ((Plain (bCells l)) /\ True))))) ((true = false) /\ ((Eq (α := List Value) (bCells l)
  (bCells l)) /\ ((Plain (bCells l)) /\ True)))) ((true = false) /\ ((Eq (α := List Value) (bCells l) (bCells l)) /\ ((Plain (bCells l)) /\ True))))))) False) (((((0 +
  List.length l * 1 <= List.length (bCells l) /\ Plain (List.take (List.length l * 1) (List.drop 0 (bCells l)))) /\ (True /\ True)) /\ ((True /\ True) /\ ((Plain (padC
  (Row.mk (List.take (List.length l * 1) (List.drop 0 (bCells l))) true (Ob.cells true)) (77 : Int)) /\ True) /\ (IsB (Row.mk (List.take (List.length l * 1) (List.drop 0
  (bCells l))) true (Ob.cells true)) (List.length l) /\ (IsU8 (77 : Int) /\ List.length l <= 16777136)))))) /\ (br (decide ((0 : Int) <= (↑0 : Int) /\ (0 : Int) <= Int.ofNat
  (List.length l) /\ Int.ofNat (List.length l) <= (↑(List.length l + 80) : Int))) (((((0 + (Int.toNat (Int.ofNat (List.length l)) - 0) * 1 <= List.length (padC (Row.mk
  (List.take (List.length l * 1) (List.drop 0 (bCells l))) true (Ob.cells true)) (77 : Int)) /\ Plain (List.take ((Int.toNat (Int.ofNat (List.length l)) - 0) * 1) (List.drop
  0 (padC (Row.mk (List.take (List.length l * 1) (List.drop 0 (bCells l))) true (Ob.cells true)) (77 : Int))))) /\ True) /\ ((True /\ True) /\ (True /\ (IsB (Row.mk
  (List.take ((Int.toNat (Int.ofNat (List.length l)) - 0) * 1) (List.drop 0 (padC (Row.mk (List.take (List.length l * 1) (List.drop 0 (bCells l))) true (Ob.cells true)) (77
  : Int)))) true (Ob.cells true)) (Int.toNat (Int.ofNat (List.length l)) - 0) /\ Int.toNat (Int.ofNat (List.length l)) - 0 <= 1048576))))) /\ (((((0 + List.length l * 1 <=
  List.length (bCells l) /\ Plain (List.take (List.length l * 1) (List.drop 0 (bCells l)))) /\ True) /\ ((True /\ True) /\ (True /\ (IsB (Row.mk (List.take (List.length l *
  1) (List.drop 0 (bCells l))) true (Ob.cells true)) (List.length l) /\ List.length l <= 1048576))))) /\ (br (strEq (dtZ (Row.mk (List.take ((Int.toNat (Int.ofNat
  (List.length l)) - 0) * 1) (List.drop 0 (padC (Row.mk (List.take (List.length l * 1) (List.drop 0 (bCells l))) true (Ob.cells true)) (77 : Int)))) true (Ob.cells true)))
  (dtZ (Row.mk (List.take (List.length l * 1) (List.drop 0 (bCells l))) true (Ob.cells true)))) (br (deZ (Row.mk (List.take ((Int.toNat (Int.ofNat (List.length l)) - 0) * 1)
  (List.drop 0 (padC (Row.mk (List.take (List.length l * 1) (List.drop 0 (bCells l))) true (Ob.cells true)) (77 : Int)))) true (Ob.cells true)) == deZ (Row.mk (List.take
  (List.length l * 1) (List.drop 0 (bCells l))) true (Ob.cells true))) (((((0 + (List.length l + 80) * 1 <= List.length (padC (Row.mk (List.take (List.length l * 1)
  (List.drop 0 (bCells l))) true (Ob.cells true)) (77 : Int)) /\ Plain (List.take ((List.length l + 80) * 1) (List.drop 0 (padC (Row.mk (List.take (List.length l * 1)
  (List.drop 0 (bCells l))) true (Ob.cells true)) (77 : Int))))) /\ ((0 + List.length l * 1 <= List.length (bCells l) /\ Plain (List.take (List.length l * 1) (List.drop 0
  (bCells l)))) /\ (True /\ True))) /\ ((True /\ (True /\ True)) /\ (True /\ (IsB (Row.mk (List.take ((List.length l + 80) * 1) (List.drop 0 (padC (Row.mk (List.take
  (List.length l * 1) (List.drop 0 (bCells l))) true (Ob.cells true)) (77 : Int)))) true (Ob.cells true)) (List.length l + 80) /\ (IsB (Row.mk (List.take (List.length l * 1)
  (List.drop 0 (bCells l))) true (Ob.cells true)) (List.length l) /\ (IsU8 (77 : Int) /\ (List.length l + 80 <= 9223372036854775807 /\ List.length l <=
  9223372036854775000)))))))) /\ (br (inI (Row.mk (List.take ((List.length l + 80) * 1) (List.drop 0 (padC (Row.mk (List.take (List.length l * 1) (List.drop 0 (bCells l)))
  true (Ob.cells true)) (77 : Int)))) true (Ob.cells true)) (Row.mk (List.take (List.length l * 1) (List.drop 0 (bCells l))) true (Ob.cells true)) (77 : Int)) (((True /\
  (True /\ (True /\ True)))) /\ ((true = true) /\ ((Eq (α := List Value) (bCells l) (bCells l)) /\ ((Plain (bCells l)) /\ True)))) ((true = false) /\ ((Eq (α := List Value)
  (bCells l) (bCells l)) /\ ((Plain (bCells l)) /\ True))))) ((true = false) /\ ((Eq (α := List Value) (bCells l) (bCells l)) /\ ((Plain (bCells l)) /\ True)))) ((true =
  false) /\ ((Eq (α := List Value) (bCells l) (bCells l)) /\ ((Plain (bCells l)) /\ True)))))) False))) := by kernel_rfl
theorem eRdD_ok : EntOk Try.prog eRdD := entC_ok (by
  intro a rows p v news h hp
  split at h <;> simp only [Option.some.injEq, Prod.mk.injEq, reduceCtorEq] at h
  obtain ⟨rfl, rfl, rfl⟩ := h
  obtain ⟨⟨l, rfl, rfl⟩, h1⟩ := hp
  rw [z_dtZ, z_deZ, dB_ro, List.append_nil]
  exact Rd_con l h1)
theorem eRoo_ok : EntOk Try.prog eRoo := entC_ok (by
  intro a rows p v news h hp
  split at h <;> simp only [Option.some.injEq, Prod.mk.injEq, reduceCtorEq] at h
  obtain ⟨rfl, rfl, rfl⟩ := h
  obtain ⟨⟨l, rfl, rfl⟩, ⟨b, rfl⟩, h1⟩ := hp
  unfold padC u8i
  simp only [dB_ro, Int.toNat_natCast, UInt8.ofNat_toNat, List.append_nil]
  exact Go.Proofs.Ytbpeollodpjicaa.bk.roomy_con l b h1)
theorem eIntB_ok : EntOk Try.prog eIntB := entC_ok (by
  intro a rows p v news h hp
  split at h <;> simp only [Option.some.injEq, Prod.mk.injEq, reduceCtorEq] at h
  obtain ⟨rfl, rfl, rfl⟩ := h
  obtain ⟨⟨l, rfl, rfl⟩, ⟨q, rfl, rfl⟩, ⟨b, rfl⟩, h1, h2⟩ := hp
  unfold inI u8i pad80
  simp only [dB_ro, Int.toNat_natCast, UInt8.ofNat_toNat, List.append_nil]
  exact Go.Proofs.Ytbpeollodpjicaa.bk.int_con l q b h1 h2)
theorem eRunsHR_ok : EntOk Try.prog eRunsHR := entC_ok (by
  intro a rows p v news h hp
  split at h <;> simp only [Option.some.injEq, Prod.mk.injEq, reduceCtorEq] at h
  obtain ⟨rfl, rfl, rfl⟩ := h
  exact runs_con)
theorem tHr_ok : ∀ x ∈ tHr, EntOk Try.prog x := all_cons eDec_ok (all_cons eRdD_ok (all_cons eRoo_ok (all_cons eIntB_ok (all_cons eRunsHR_ok (all_nil)))))
theorem padC_mk (m : List UInt8) : padC ⟨bCells m, true, .cells true⟩ 77 = bCells (pad80 m 77) := by
  unfold padC; rw [dB_mk]; rfl
theorem padLen (m : List UInt8) : (pad80 m 77).length = m.length + 80 := by simp [pad80]
theorem inI_mk (m : List UInt8) : inI ⟨bCells (pad80 m 77), true, .cells true⟩ ⟨bCells m, true, .cells true⟩ 77 = true := by
  unfold inI; rw [dB_mk, dB_mk]; exact decide_eq_true rfl
theorem isU8_77 : IsU8 77 := ⟨77, rfl⟩
theorem hr_law (l : List UInt8) (hl : l.length ≤ maxLen) : Con Try.prog 5 [slc 0 l.length] [bRo l] (.bool true) [bRo l] := by
  refine con_vc (E := EtHr) tk.mixed (calls_envT tHr_ok) (lok_envT _ _) (M := noM) lm_none (Hr_vc l) ?_
  have hm : maxLen = 9223372036854775807 := by unfold maxLen; rfl
  simp only [ofNat_eq, toNat_cast, Nat.zero_add, Nat.add_zero, Nat.mul_one, List.drop_zero, bCells_len, bCells_drop, bCells_take, bCells_app, bCells_one, bCells_plain, List.length_replicate, List.length_append, List.length_take, List.length_drop, List.take_length, and_true, true_and, and_self, decide_true, List.length_nil, List.length_cons, Nat.sub_zero, dB_mk, dB_ro, List.take_zero, z_dtZ, z_deZ, padC_mk]
  have key : ∀ q : List UInt8, q.length ≤ 200 → ∀ n k : Nat, n = q.length → k = q.length + 80 → List.take n (pad80 q 77) = q ∧ List.take k (pad80 q 77) = pad80 q 77 := by
    intro q _ n k h1 h2
    refine ⟨by rw [h1]; unfold pad80; rw [List.take_left], List.take_of_length_le (by rw [padLen]; omega)⟩
  have t0 : Int.toNat 200 - Int.toNat 0 = 200 := rfl
  refine br_if (fun h => br_dec (by omega) ?_) (fun h => ?_)
  · have hq : (l.take 200).length = 200 := by rw [List.length_take]; omega
    obtain ⟨k1, k2⟩ := key (l.take 200) (by omega) 200 280 hq.symm (by omega)
    rw [k1, k2]
    generalize l.take 200 = q at *
    have iq : IsB ⟨bCells q, true, .cells true⟩ 200 := isB_mk _ _ hq.symm
    have ip : IsB ⟨bCells (pad80 q 77), true, .cells true⟩ 280 := isB_mk _ _ (by rw [padLen]; omega)
    exact ⟨⟨by omega, iq, isU8_77, by omega⟩, ⟨by rw [padLen]; omega, iq, by omega⟩, ⟨by omega, iq, by omega⟩, br_b (by rw [strEq_bs]; exact decide_eq_true rfl) (br_b (by simp) ⟨⟨⟨by rw [padLen]; omega, by omega⟩, ip, iq, isU8_77, by omega, by omega⟩, br_b (inI_mk q) trivial⟩)⟩
  · obtain ⟨k1, k2⟩ := key l (by omega) l.length (l.length + 80) rfl rfl
    rw [k1, k2]
    have iq : IsB ⟨bCells l, true, .cells true⟩ l.length := isB_mk _ _ rfl
    have ip : IsB ⟨bCells (pad80 l 77), true, .cells true⟩ (l.length + 80) := isB_mk _ _ (by rw [padLen])
    exact ⟨⟨by omega, iq, isU8_77, by omega⟩, br_dec (by omega) ⟨⟨by rw [padLen]; omega, iq, by omega⟩, ⟨by omega, iq, by omega⟩, br_b (by rw [strEq_bs]; exact decide_eq_true rfl) (br_b (by simp) ⟨⟨⟨by rw [padLen]; omega, by omega⟩, ip, iq, isU8_77, by omega, by omega⟩, br_b (inI_mk l) trivial⟩)⟩⟩
end Go.Proofs.Ytbpeollodpjicaa.md
