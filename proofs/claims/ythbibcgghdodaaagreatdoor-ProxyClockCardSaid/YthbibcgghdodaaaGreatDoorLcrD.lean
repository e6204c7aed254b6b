/- Two texts, decoded: for closed sentences. -/
import Derived.Test.YthbibcgghdodaaaGreatDoorSz9
import Derived.Test.YthbibcgghdodaaaGreatDoorRows
import Derived.Test.YthbibcgghdodaaaGreatDoorLcrP
set_option maxRecDepth 20000
set_option linter.unusedSimpArgs false
set_option linter.unusedVariables false
namespace Go.Proofs.YthbibcgghdodaaaGreatDoor.cr
open Go Go.Ev Go.Sy Go.RowKit
def dk1 : List Value := [.int .u8 18, .int .u8 150, .int .u8 21, .int .u8 5, .int .u8 179, .int .u8 185, .int .u8 205, .int .u8 103]
def dv1 : Value := .tuple #[.string ⟨#[50, 32, 114, 101, 115, 101, 114, 118, 111, 105, 114]⟩, .int .i64 0]
def dk2 : List Value := [.int .u8 164, .int .u8 126, .int .u8 86, .int .u8 28, .int .u8 197, .int .u8 129, .int .u8 192, .int .u8 127]
def dv2 : Value := .tuple #[.string ⟨#[109, 97, 120, 45, 97, 103, 101, 61, 54, 48]⟩, .int .i64 0]
noncomputable def eDk : EntM := entC 277 fun a r => match a, r with
  | [.slice (some ⟨0, 0, none⟩) n 1], [⟨cells, true, .cells true⟩] => bif Nat.beq n 8 then (bif Go.Proofs.YthbibcgghdodaaaGreatDoor.ck.eqFs cells dk1 then some (True, dv1, []) else bif Go.Proofs.YthbibcgghdodaaaGreatDoor.ck.eqFs cells dk2 then some (True, dv2, []) else none) else none
  | _, _ => none
noncomputable abbrev EPd : Env := envTl Tryz.prog [eDk] oPr
theorem Dk1_vc (u : Unit) : mcall EPr noM 5000 277 [.slice (some ⟨0, 0, none⟩) 8 1] ⟨mkR (nums 0 [⟨dk1, true, .cells true⟩]), 1⟩ (retIs 1 dv1 [⟨dk1, true, .cells true⟩]) =
  ((ByteArray.mk #[50, 32, 114, 101, 115, 101, 114, 118, 111, 105, 114] = ByteArray.mk (Array.mk [UInt8.ofNat (Nat.succ (nat_lit 49)), UInt8.ofNat (Nat.succ (nat_lit 31)),
  UInt8.ofNat (Nat.succ (nat_lit 113)), UInt8.ofNat (Nat.succ (nat_lit 100)), UInt8.ofNat (Nat.succ (nat_lit 114)), UInt8.ofNat (Nat.succ (nat_lit 100)), UInt8.ofNat
  (Nat.succ (nat_lit 113)), UInt8.ofNat (Nat.succ (nat_lit 117)), UInt8.ofNat (Nat.succ (nat_lit 110)), UInt8.ofNat (Nat.succ (nat_lit 104)), UInt8.ofNat (Nat.succ (nat_lit
  113))])) /\ (((0 : Int) = (0 : Int)) /\ ((Eq (α := List Value) ([Value.int IntKind.u8 (18 : Int), Value.int IntKind.u8 (150 : Int), Value.int IntKind.u8 (21 : Int),
  Value.int IntKind.u8 (5 : Int), Value.int IntKind.u8 (179 : Int), Value.int IntKind.u8 (185 : Int), Value.int IntKind.u8 (205 : Int), Value.int IntKind.u8 (103 : Int)])
  ([Value.int IntKind.u8 (18 : Int), Value.int IntKind.u8 (150 : Int), Value.int IntKind.u8 (21 : Int), Value.int IntKind.u8 (5 : Int), Value.int IntKind.u8 (179 : Int),
  Value.int IntKind.u8 (185 : Int), Value.int IntKind.u8 (205 : Int), Value.int IntKind.u8 (103 : Int)])) /\ ((Plain dk1) /\ True)))) := by kernel_rfl
theorem Dk2_vc (u : Unit) : mcall EPr noM 5000 277 [.slice (some ⟨0, 0, none⟩) 8 1] ⟨mkR (nums 0 [⟨dk2, true, .cells true⟩]), 1⟩ (retIs 1 dv2 [⟨dk2, true, .cells true⟩]) =
  ((ByteArray.mk #[109, 97, 120, 45, 97, 103, 101, 61, 54, 48] = ByteArray.mk (Array.mk [UInt8.ofNat (Nat.succ (nat_lit 108)), UInt8.ofNat (Nat.succ (nat_lit 96)),
  UInt8.ofNat (Nat.succ (nat_lit 119)), UInt8.ofNat (Nat.succ (nat_lit 44)), UInt8.ofNat (Nat.succ (nat_lit 96)), UInt8.ofNat (Nat.succ (nat_lit 102)), UInt8.ofNat (Nat.succ
  (nat_lit 100)), UInt8.ofNat (Nat.succ (nat_lit 60)), UInt8.ofNat (Nat.succ (nat_lit 53)), UInt8.ofNat (Nat.succ (nat_lit 47))])) /\ (((0 : Int) = (0 : Int)) /\ ((Eq (α :=
  List Value) ([Value.int IntKind.u8 (164 : Int), Value.int IntKind.u8 (126 : Int), Value.int IntKind.u8 (86 : Int), Value.int IntKind.u8 (28 : Int), Value.int IntKind.u8
  (197 : Int), Value.int IntKind.u8 (129 : Int), Value.int IntKind.u8 (192 : Int), Value.int IntKind.u8 (127 : Int)]) ([Value.int IntKind.u8 (164 : Int), Value.int
  IntKind.u8 (126 : Int), Value.int IntKind.u8 (86 : Int), Value.int IntKind.u8 (28 : Int), Value.int IntKind.u8 (197 : Int), Value.int IntKind.u8 (129 : Int), Value.int
  IntKind.u8 (192 : Int), Value.int IntKind.u8 (127 : Int)])) /\ ((Plain dk2) /\ True)))) := by kernel_rfl
theorem Dk1_con : Con Tryz.prog 277 [.slice (some ⟨0, 0, none⟩) 8 1] [⟨dk1, true, .cells true⟩] dv1 [⟨dk1, true, .cells true⟩] := by
  refine con_vc (E := EPr) (by kernel_rfl) EPr_calls EPr_l (M := noM) lm_none (Dk1_vc ()) ?_
  repeat' first | exact trivial | exact ⟨rfl, rfl⟩ | rfl | refine ⟨?_, ?_⟩ | (intro v hv; simp [dk1, dk2] at hv; rcases hv with rfl | rfl | rfl | rfl | rfl | rfl | rfl | rfl <;> rfl)
theorem Dk2_con : Con Tryz.prog 277 [.slice (some ⟨0, 0, none⟩) 8 1] [⟨dk2, true, .cells true⟩] dv2 [⟨dk2, true, .cells true⟩] := by
  refine con_vc (E := EPr) (by kernel_rfl) EPr_calls EPr_l (M := noM) lm_none (Dk2_vc ()) ?_
  repeat' first | exact trivial | exact ⟨rfl, rfl⟩ | rfl | refine ⟨?_, ?_⟩ | (intro v hv; simp [dk1, dk2] at hv; rcases hv with rfl | rfl | rfl | rfl | rfl | rfl | rfl | rfl <;> rfl)
theorem eDk_ok : EntOk Tryz.prog eDk := entC_ok (by
  intro a rows p v news h hp
  split at h
  · rename_i n cells
    cases h1 : Nat.beq n 8 with
    | false => rw [h1] at h; simp at h
    | true =>
      have := Nat.eq_of_beq_eq_true h1; subst this
      rw [h1] at h
      simp only [cond_true] at h
      cases h2 : Go.Proofs.YthbibcgghdodaaaGreatDoor.ck.eqFs cells dk1 with
      | true =>
        rw [h2] at h
        simp only [cond_true, Option.some.injEq, Prod.mk.injEq] at h
        obtain ⟨_, rfl, rfl⟩ := h
        rw [(Go.Proofs.YthbibcgghdodaaaGreatDoor.ck.eqFs_eq _ _ h2).1]
        exact Dk1_con
      | false =>
        rw [h2] at h
        simp only [cond_false] at h
        cases h3 : Go.Proofs.YthbibcgghdodaaaGreatDoor.ck.eqFs cells dk2 with
        | true =>
          rw [h3] at h
          simp only [cond_true, Option.some.injEq, Prod.mk.injEq] at h
          obtain ⟨_, rfl, rfl⟩ := h
          rw [(Go.Proofs.YthbibcgghdodaaaGreatDoor.ck.eqFs_eq _ _ h3).1]
          exact Dk2_con
        | false => rw [h3] at h; simp at h
  · simp at h)
theorem EPd_calls : CallsOk Tryz.prog (oOf EPd) := calls_envTl oPr_ok (all_cons eDk_ok all_nil)
theorem EPd_l : LOk EPd := lok_envTl _ _ _
end Go.Proofs.YthbibcgghdodaaaGreatDoor.cr
