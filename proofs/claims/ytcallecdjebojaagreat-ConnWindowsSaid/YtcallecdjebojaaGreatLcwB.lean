/- WINDOW_UPDATE on the stream 1 is fed: contract. -/
import Derived.Test.YtcallecdjebojaaGreatSz9
import Derived.Test.YtcallecdjebojaaGreatRows
import Derived.Test.YtcallecdjebojaaGreatLcwA
set_option maxRecDepth 20000
set_option linter.unusedSimpArgs false
set_option linter.unusedVariables false
namespace Go.Proofs.YtcallecdjebojaaGreat.cw
open Go Go.Ev Go.Sy Go.RowKit Go.Proofs.YtcallecdjebojaaGreat.gl Go.Proofs.YtcallecdjebojaaGreat.tk Go.Proofs.YtcallecdjebojaaGreat.cp Go.Proofs.YtcallecdjebojaaGreat.s9 Go.Proofs.YtcallecdjebojaaGreat.fd Go.Proofs.YtcallecdjebojaaGreat.fe Go.Proofs.YtcallecdjebojaaGreat.cu Go.Proofs.YtcallecdjebojaaGreat.cg
def HdT (t : Nat) (r : Row) (nb : Nat) : Prop := ∃ p : List UInt8, r = bRo (headB p.length t 0 1 ++ p) ∧ nb = 9 + p.length ∧ p.length ≤ 16384
noncomputable def eFdT (t : Nat) : EntM := (48, fun a r => match a, r with
  | [.pointer (some ⟨0, 0, none⟩), .slice (some ⟨1, 0, none⟩) nb 1], [⟨[.slice (some ⟨2, k, none⟩) n 1, .int .i64 m, .string st, .int .i64 sc, .int .i64 co, .int .i64 0], false, .cells false⟩, r2, r1] =>
    some (n = 0 ∧ m = 16384 ∧ st = ⟨#[]⟩ ∧ sc = 0 ∧ co = 0 ∧ IsO r1 k ∧ HdT t r2 nb, .tuple ⟨[slc4 5 1, badV 0 0 0]⟩, 6,
      [(0, rdU 4 nb 0 16384 0 0), (4, bOwn (yP r2)), (5, ⟨[.int .i64 t, .int .i64 0, .int .i64 1, .slice (some ⟨yZ r2, 0, some 0⟩) (nb - 9) 1], false, .cells true⟩)])
  | _, _ => none)
def cnE (v W : Int) (qn : Nat) : Row := ⟨[.bool true, .int .i64 2, .int .i64 65535, .int .i64 65536, .int .i64 4096, .int .i64 2147483647, .int .i64 v, .int .i64 16384, .int .i64 2147483647, .slice (some ⟨2, 0, none⟩) qn 1, .pointer (some ⟨3, 0, none⟩), .pointer (some ⟨4, 0, none⟩), .pointer (some ⟨5, 0, none⟩), .int .i64 W, .int .i64 65535, .slice (some ⟨6, 0, none⟩) 1 1, .slice none 0 0, .int .i64 1, .int .i64 1, .bool true, .bool false, .bool false, .bool false, .bool false, .int .i64 0, .slice none 0 0, .bool false, .slice none 0 0], false, .cells false⟩
noncomputable def rlE (v W N : Int) (q y : List UInt8) : List (Nat × Row) := [(0, cnE v W q.length), (2, bOwn q), (3, cp.rdB 11 13 0), (4, unB 8), (5, pkB 9), (6, stD 10), (8, tbB), (9, tbB), (10, flD N), (11, bOwn y)]
noncomputable def tE : List EntM := [eRigT, eFdT 8]
noncomputable abbrev EE : Env := envCut (envTc Tryz.prog tE) [50, 85, 70, 81, 122]
def fW (h l : UInt8) : List UInt8 := headB 4 8 0 1 ++ [0, 0, h, l]
set_option maxHeartbeats 4000000 in
theorem E_vc (v W N N2 : Int) (q x y : List UInt8) (k : Nat) (h l : UInt8) : mcall EE noM 100 20 [.pointer (some ⟨0, 0, none⟩), .slice (some ⟨1, 0, none⟩) 13 1] ⟨mkR (nums 0 [cnE v W q.length, bRo (fW h l), bOwn q, cp.rdB 7 k 0, unB 8, pkB 9, stD 10, bOwn x, tbB, tbB, flD N]), 11⟩ (retIsM 11 (.slice none 0 0) 12 (rlE v W N2 q y)) =
  let z2 := (Row.mk [Value.int IntKind.u8 (0 : Int), Value.int IntKind.u8 (0 : Int), Value.int IntKind.u8 (4 : Int), Value.int IntKind.u8 (8 : Int), Value.int IntKind.u8 (0
  : Int), Value.int IntKind.u8 (0 : Int), Value.int IntKind.u8 (0 : Int), Value.int IntKind.u8 (0 : Int), Value.int IntKind.u8 (1 : Int), Value.int IntKind.u8 (0 : Int),
  Value.int IntKind.u8 (0 : Int), Value.int IntKind.u8 (↑(UInt8.toNat h) : Int), Value.int IntKind.u8 (↑(UInt8.toNat l) : Int)] true (Ob.cells true)); let z1 := (gCells
  (cellZ [Value.int IntKind.i64 (8 : Int), Value.int IntKind.i64 (0 : Int), Value.int IntKind.i64 (1 : Int), Value.slice (some (Addr.mk (yZ z2) 0 (some 0))) 4 1] 3)); let z3
  := (ior IntKind.i64 (ior IntKind.i64 (ior IntKind.i64 (ishl IntKind.i64 (IntKind.wrap IntKind.i64 (cellI z1 0)) (24 : Int)) (ishl IntKind.i64 (IntKind.wrap IntKind.i64
  (cellI z1 1)) (16 : Int))) (ishl IntKind.i64 (IntKind.wrap IntKind.i64 (cellI z1 2)) (8 : Int))) (IntKind.wrap IntKind.i64 (cellI z1 3))); let z19 := (Value.agg (Array.mk
  [Value.int IntKind.i64 N])); let z14 := (Value.int IntKind.i64 (iand IntKind.i64 z3 (2147483647 : Int))); let z4 := (br (veq 20 z19 z19) (br (veq 20 z14 z14) False False)
  False); let z5 := (cellN [Value.int IntKind.i64 (8 : Int), Value.int IntKind.i64 (0 : Int), Value.int IntKind.i64 (1 : Int), Value.slice (some (Addr.mk (yZ z2) 0 (some
  0))) 4 1] 3); let z6 := (cellI [Value.int IntKind.i64 (8 : Int), Value.int IntKind.i64 (0 : Int), Value.int IntKind.i64 (1 : Int), Value.slice (some (Addr.mk (yZ z2) 0
  (some 0))) 4 1] 0); let z7 := (cellI [Value.int IntKind.i64 (8 : Int), Value.int IntKind.i64 (0 : Int), Value.int IntKind.i64 (1 : Int), Value.slice (some (Addr.mk (yZ z2)
  0 (some 0))) 4 1] 1); let z8 := (cellI [Value.int IntKind.i64 (8 : Int), Value.int IntKind.i64 (0 : Int), Value.int IntKind.i64 (1 : Int), Value.slice (some (Addr.mk (yZ
  z2) 0 (some 0))) 4 1] 2); let z9 := (cellO [Value.int IntKind.i64 (8 : Int), Value.int IntKind.i64 (0 : Int), Value.int IntKind.i64 (1 : Int), Value.slice (some (Addr.mk
  (yZ z2) 0 (some 0))) 4 1] 3); let z10 := (Eq (α := Option Value) (z1[0]?) (some (Value.int IntKind.u8 (cellI z1 0)))); let z11 := (Eq (α := Option Value) (z1[1]?) (some
  (Value.int IntKind.u8 (cellI z1 1)))); let z12 := (Eq (α := Option Value) (z1[2]?) (some (Value.int IntKind.u8 (cellI z1 2)))); let z13 := (Eq (α := Option Value) (z1[3]?)
  (some (Value.int IntKind.u8 (cellI z1 3)))); let z15 := (Value.int IntKind.i64 (IntKind.wrap IntKind.i64 (cellI z1 0))); let z16 := (Value.int IntKind.i64 (IntKind.wrap
  IntKind.i64 (cellI z1 1))); let z17 := (Value.int IntKind.i64 (IntKind.wrap IntKind.i64 (cellI z1 2))); let z18 := (Value.int IntKind.i64 (IntKind.wrap IntKind.i64 (cellI
  z1 3))); ((((True /\ ((13 <= 13 /\ Plain [Value.int IntKind.u8 (0 : Int), Value.int IntKind.u8 (0 : Int), Value.int IntKind.u8 (4 : Int), Value.int IntKind.u8 (8 : Int),
  Value.int IntKind.u8 (0 : Int), Value.int IntKind.u8 (0 : Int), Value.int IntKind.u8 (0 : Int), Value.int IntKind.u8 (0 : Int), Value.int IntKind.u8 (1 : Int), Value.int
  IntKind.u8 (0 : Int), Value.int IntKind.u8 (0 : Int), Value.int IntKind.u8 (↑(UInt8.toNat h) : Int), Value.int IntKind.u8 (↑(UInt8.toNat l) : Int)]) /\ True)) /\ (((True
  /\ (True /\ (True /\ (True /\ (True /\ (True /\ True)))))) /\ (True /\ (Plain (bCells x) /\ True))) /\ ((Plain (bCells (yP z2)) /\ (Plain [Value.int IntKind.i64 (8 : Int),
  Value.int IntKind.i64 (0 : Int), Value.int IntKind.i64 (1 : Int), Value.slice (some (Addr.mk (yZ z2) 0 (some 0))) 4 1] /\ True)) /\ (0 = 0 /\ ((16384 : Int) = (16384 :
  Int) /\ (ByteArray.mk #[] = ByteArray.mk #[] /\ ((0 : Int) = (0 : Int) /\ ((0 : Int) = (0 : Int) /\ (IsO (Row.mk (bCells x) false (Ob.cells true)) k /\ HdT 8 z2
  13)))))))))) /\ ((Eq (α := Option Value) (some (Value.int IntKind.i64 (8 : Int))) (some (Value.int IntKind.i64 z6))) /\ ((Eq (α := Option Value) (some (Value.int
  IntKind.i64 (0 : Int))) (some (Value.int IntKind.i64 z7))) /\ ((Eq (α := Option Value) (some (Value.int IntKind.i64 (1 : Int))) (some (Value.int IntKind.i64 z8))) /\ ((Eq
  (α := Option Value) (some (Value.slice (some (Addr.mk (yZ z2) 0 (some 0))) 4 1)) (some (Value.slice (some (Addr.mk (cellZ [Value.int IntKind.i64 (8 : Int), Value.int
  IntKind.i64 (0 : Int), Value.int IntKind.i64 (1 : Int), Value.slice (some (Addr.mk (yZ z2) 0 (some 0))) 4 1] 3) z9 (some 0))) z5 1))) /\ (((((True /\ (True /\ (True /\ (4
  <= List.length z1 /\ True)))) /\ True) /\ ((True /\ True) /\ (True /\ (IsB (Row.mk (List.take 4 (List.drop z9 z1)) true (Ob.cells true)) z5 /\ rightB z6 z7 z8 z5 =
  true))))) /\ (z10 /\ (z11 /\ (z12 /\ (z13 /\ (z10 /\ (br (veq 20 (Value.int IntKind.u8 (cellI z1 0)) (Value.int IntKind.u8 (cellI z1 0))) (br (veq 20 z15 z15) (z11 /\ (br
  (veq 20 (Value.int IntKind.u8 (cellI z1 1)) (Value.int IntKind.u8 (cellI z1 1))) (br (veq 20 z16 z16) (z12 /\ (br (veq 20 (Value.int IntKind.u8 (cellI z1 2)) (Value.int
  IntKind.u8 (cellI z1 2))) (br (veq 20 z17 z17) (z13 /\ (br (veq 20 (Value.int IntKind.u8 (cellI z1 3)) (Value.int IntKind.u8 (cellI z1 3))) (br (veq 20 z18 z18) (br
  (decide (iand IntKind.i64 z3 (2147483647 : Int) > (0 : Int))) (br (decide (iand IntKind.i64 z3 (2147483647 : Int) < (0 : Int))) z4 (br (decide (iand IntKind.i64 z3
  (2147483647 : Int) > (2147483647 : Int))) z4 (br (decide (IntKind.wrap IntKind.i64 (N + iand IntKind.i64 z3 (2147483647 : Int)) > (2147483647 : Int))) z4 (br (veq 20 z19
  z19) (br (veq 20 z14 z14) ((true = true) /\ (((2 : Int) = (2 : Int)) /\ (((65535 : Int) = (65535 : Int)) /\ (((65536 : Int) = (65536 : Int)) /\ (((4096 : Int) = (4096 :
  Int)) /\ (((2147483647 : Int) = (2147483647 : Int)) /\ ((v = v) /\ (((16384 : Int) = (16384 : Int)) /\ (((2147483647 : Int) = (2147483647 : Int)) /\ ((0 = 0) /\
  ((List.length q = List.length q) /\ ((0 = 0) /\ ((0 = 0) /\ ((0 = 0) /\ ((W = W) /\ (((65535 : Int) = (65535 : Int)) /\ ((0 = 0) /\ ((1 = 1) /\ (((1 : Int) = (1 : Int)) /\
  (((1 : Int) = (1 : Int)) /\ ((true = true) /\ ((false = false) /\ ((false = false) /\ ((false = false) /\ ((false = false) /\ (((0 : Int) = (0 : Int)) /\ ((false = false)
  /\ ((Eq (α := List Value) (bCells q) (bCells q)) /\ ((Plain (bCells q)) /\ ((13 = 13) /\ ((0 = 0) /\ (((16384 : Int) = (16384 : Int)) /\ ((ByteArray.mk #[] = ByteArray.mk
  #[]) /\ (((0 : Int) = (0 : Int)) /\ (((0 : Int) = (0 : Int)) /\ (((0 : Int) = (0 : Int)) /\ ((0 = 0) /\ (((4096 : Int) = (4096 : Int)) /\ (((65536 : Int) = (65536 : Int))
  /\ ((false = false) /\ ((0 = 0) /\ ((false = false) /\ (((0 : Int) = (0 : Int)) /\ ((0 = 0) /\ (((0 : Int) = (0 : Int)) /\ (((4096 : Int) = (4096 : Int)) /\ (((0 : Int) =
  (0 : Int)) /\ (((4096 : Int) = (4096 : Int)) /\ (((1 : Int) = (1 : Int)) /\ (((3 : Int) = (3 : Int)) /\ ((N2 = IntKind.wrap IntKind.i64 (N + iand IntKind.i64 z3
  (2147483647 : Int))) /\ (((65535 : Int) = (65535 : Int)) /\ ((true = true) /\ ((true = true) /\ ((Eq (α := List Value) (bCells y) (bCells (yP z2))) /\ ((Plain (bCells y))
  /\ True)))))))))))))))))))))))))))))))))))))))))))))))))))))))) False) False)))) False) False) False)) False) False)) False) False)) False) False)))))))))))) := by kernel_rfl
theorem fedT (t : Nat) (ht : t < 256) (x p : List UInt8) (hp : p.length ≤ 16384) : fdL 16384 ⟨x, x.length, false⟩ (headB p.length t 0 1 ++ p) = [⟨t, 0, 1, p⟩] ∧ fdB 16384 ⟨x, x.length, false⟩ (headB p.length t 0 1 ++ p) = false ∧ fdS 16384 ⟨x, x.length, false⟩ (headB p.length t 0 1 ++ p) = ⟨headB p.length t 0 1 ++ p, 9 + p.length, false⟩ := by
  have hl : (headB p.length t 0 1 ++ p).length = 9 + p.length := by rw [List.length_append]; rfl
  have hk : keeps ⟨x, x.length, false⟩ (headB p.length t 0 1 ++ p) = false := by unfold keeps; exact decide_eq_false (by simp only; omega)
  have ex : fdX ⟨x, x.length, false⟩ (headB p.length t 0 1 ++ p) = headB p.length t 0 1 ++ p := by unfold fdX; rw [if_neg (by simp [hk])]; simp
  have ek : fdK ⟨x, x.length, false⟩ (headB p.length t 0 1 ++ p) = 0 := by unfold fdK; rw [if_neg (by simp [hk])]
  have hr : run 16384 (9 + p.length) (headB p.length t 0 1 ++ (p ++ [])) = (⟨t, 0, 1, p⟩ :: (run 16384 (9 + p.length) []).1, 9 + p.length + (run 16384 (9 + p.length) []).2.1, (run 16384 (9 + p.length) []).2.2) :=
    run_one 16384 (9 + p.length) p [] t 0 1 ht (by omega) (by omega) (by omega) (by omega) (by
      show (headB p.length t 0 1 ++ (p ++ [])).length ≤ 9 + p.length
      rw [List.append_nil, hl]; exact Nat.le_refl _)
  rw [List.append_nil, run_nil] at hr
  have hR : fdR 16384 ⟨x, x.length, false⟩ (headB p.length t 0 1 ++ p) = ([⟨t, 0, 1, p⟩], 9 + p.length, false) := by
    unfold fdR; rw [ex, ek, hl, List.drop_zero]; exact hr
  unfold fdL fdB fdS
  rw [hR, ex, ek]
  simp
theorem eFdT_ok (t : Nat) (ht : t < 256) : EntOk Tryz.prog (eFdT t) := by
  intro a rows q v n' rl h hp
  unfold eFdT at h
  simp only at h
  split at h
  · simp only [Option.some.injEq, Prod.mk.injEq] at h
    obtain ⟨rfl, rfl, rfl, rfl⟩ := h
    obtain ⟨rfl, rfl, rfl, rfl, rfl, ⟨x, rfl, rfl, hx⟩, ⟨p, hr, rfl, hpl⟩⟩ := hp
    rw [hr]
    have e1 : yP (bRo (headB p.length t 0 1 ++ p)) = headB p.length t 0 1 ++ p := by unfold yP; rw [sealV_eq, dB_ro]
    have e2 : yZ (bRo (headB p.length t 0 1 ++ p)) = gCode (bCells p) := by
      unfold yZ; rw [sealV_eq]; simp only [dB_ro]
      rw [show (9 : Nat) = (headB p.length t 0 1).length from rfl, List.drop_left]
    rw [e1, e2, Nat.add_sub_cancel_left]
    obtain ⟨f1, f2, f3⟩ := fedT t ht x p hpl
    have hl : (headB p.length t 0 1 ++ p).length = 9 + p.length := by rw [List.length_append]; rfl
    have hc := U_con ⟨x, x.length, false⟩ (headB p.length t 0 1 ++ p) 16384 ⟨Nat.le_refl _, fun h => by simp at h⟩ (by rw [hl]; simp only; omega)
    rw [f1, f2, f3, hl] at hc
    simp only [hl, Nat.sub_self] at hc
    exact hc
  · simp at h
theorem tE_ok : ∀ x ∈ tE, EntOk Tryz.prog x := all_cons eRigT_ok (all_cons (eFdT_ok 8 (by decide)) all_nil)
theorem fW_c (h l : UInt8) : bCells (fW h l) = [.int .u8 0, .int .u8 0, .int .u8 4, .int .u8 8, .int .u8 0, .int .u8 0, .int .u8 0, .int .u8 0, .int .u8 1, .int .u8 0, .int .u8 0, .int .u8 (h.toNat : Int), .int .u8 (l.toNat : Int)] := rfl
theorem yZ_w (h l : UInt8) : yZ ⟨[.int .u8 0, .int .u8 0, .int .u8 4, .int .u8 8, .int .u8 0, .int .u8 0, .int .u8 0, .int .u8 0, .int .u8 1, .int .u8 0, .int .u8 0, .int .u8 (h.toNat : Int), .int .u8 (l.toNat : Int)], true, .cells true⟩ = gCode (bCells [0, 0, h, l]) := by
  rw [← fW_c]; unfold yZ; rw [sealV_eq]; simp only [dB_mk]; rfl
theorem yP_w (h l : UInt8) : yP ⟨[.int .u8 0, .int .u8 0, .int .u8 4, .int .u8 8, .int .u8 0, .int .u8 0, .int .u8 0, .int .u8 0, .int .u8 1, .int .u8 0, .int .u8 0, .int .u8 (h.toNat : Int), .int .u8 (l.toNat : Int)], true, .cells true⟩ = fW h l := by
  rw [← fW_c]; unfold yP; rw [sealV_eq]; simp only [dB_mk]
theorem cW0 (z n : Nat) : cellI [.int .i64 8, .int .i64 0, .int .i64 1, .slice (some ⟨z, 0, some 0⟩) n 1] 0 = 8 := rfl
theorem cW1 (z n : Nat) : cellI [.int .i64 8, .int .i64 0, .int .i64 1, .slice (some ⟨z, 0, some 0⟩) n 1] 1 = 0 := rfl
theorem cW2 (z n : Nat) : cellI [.int .i64 8, .int .i64 0, .int .i64 1, .slice (some ⟨z, 0, some 0⟩) n 1] 2 = 1 := rfl
theorem cWZ (z n : Nat) : cellZ [.int .i64 8, .int .i64 0, .int .i64 1, .slice (some ⟨z, 0, some 0⟩) n 1] 3 = z := rfl
theorem cWO (z n : Nat) : cellO [.int .i64 8, .int .i64 0, .int .i64 1, .slice (some ⟨z, 0, some 0⟩) n 1] 3 = 0 := rfl
theorem cWN (z n : Nat) : cellN [.int .i64 8, .int .i64 0, .int .i64 1, .slice (some ⟨z, 0, some 0⟩) n 1] 3 = n := rfl
theorem veq_slz0 (k z o n : Nat) : veq (k + 1) (.slice (some ⟨z, o, some 0⟩) n 1) (.slice (some ⟨z, o, some 0⟩) n 1) = true := by simp [veq]
theorem dP0 (h l : UInt8) : cellI (bCells [0, 0, h, l]) 0 = 0 := rfl
theorem dP1 (h l : UInt8) : cellI (bCells [0, 0, h, l]) 1 = 0 := rfl
theorem dP2 (h l : UInt8) : cellI (bCells [0, 0, h, l]) 2 = (h.toNat : Int) := rfl
theorem dP3 (h l : UInt8) : cellI (bCells [0, 0, h, l]) 3 = (l.toNat : Int) := rfl
theorem num_f : ∀ a : Fin 9, ∀ b : Fin 256, iand .i64 (ior .i64 (ior .i64 (ior .i64 (ishl .i64 (IntKind.i64.wrap 0) 24) (ishl .i64 (IntKind.i64.wrap 0) 16)) (ishl .i64 (IntKind.i64.wrap ((a.val : Nat) : Int)) 8)) (IntKind.i64.wrap ((b.val : Nat) : Int))) 2147483647 = ((a.val * 256 + b.val : Nat) : Int) := by decide +kernel
theorem num_w (h l : UInt8) (hh : h.toNat ≤ 8) : iand .i64 (ior .i64 (ior .i64 (ior .i64 (ishl .i64 (IntKind.i64.wrap 0) 24) (ishl .i64 (IntKind.i64.wrap 0) 16)) (ishl .i64 (IntKind.i64.wrap (h.toNat : Int)) 8)) (IntKind.i64.wrap (l.toNat : Int))) 2147483647 = ((h.toNat * 256 + l.toNat : Nat) : Int) :=
  num_f ⟨h.toNat, by omega⟩ ⟨l.toNat, l.toNat_lt⟩
theorem frW_pl (z n : Nat) : Plain [.int .i64 8, .int .i64 0, .int .i64 1, .slice (some ⟨z, 0, some 0⟩) n 1] := by
  intro v hv
  simp only [List.mem_cons, List.not_mem_nil, or_false] at hv
  rcases hv with rfl | rfl | rfl | rfl <;> rfl
set_option maxRecDepth 400000 in
theorem E_con (v W N : Int) (q x : List UInt8) (k : Nat) (h l : UInt8) (hk : 1 ≤ h.toNat * 256 + l.toNat) (hh : h.toNat ≤ 8) (hx : x.length = k) (hk2 : k ≤ 1000) (hN : 0 ≤ N) (hN2 : N ≤ 100000) : ConM Tryz.prog 20 [.pointer (some ⟨0, 0, none⟩), .slice (some ⟨1, 0, none⟩) 13 1] [cnE v W q.length, bRo (fW h l), bOwn q, cp.rdB 7 k 0, unB 8, pkB 9, stD 10, bOwn x, tbB, tbB, flD N] (.slice none 0 0) 12 (rlE v W (N + ((h.toNat * 256 + l.toNat : Nat) : Int)) q (fW h l)) := by
  refine conM_vc (E := EE) tk.mixed (cut_calls (calls_envTc tE_ok)) cut_lok (M := noM) lm_none (E_vc v W N _ q x _ k h l) ?_
  simp only [ofNat_eq, toNat_cast, Nat.zero_add, Nat.add_zero, Nat.mul_one, List.drop_zero, bCells_len, bCells_drop, bCells_take, bCells_app, bCells_one, bCells_plain, List.length_replicate, List.length_append, List.length_take, List.length_drop, List.take_length, and_true, true_and, and_self, decide_true, List.length_nil, List.length_cons, Nat.sub_zero, dB_mk, dB_ro, List.take_zero, Int.toNat_natCast, yZ_w, yP_w, cW0, cW1, cW2, cWZ, cWO, cWN, gCb, dP0, dP1, dP2, dP3, num_w h l hh]
  obtain ⟨K, hK⟩ : ∃ K : Nat, K = h.toNat * 256 + l.toNat := ⟨_, rfl⟩
  have hKl : K ≤ 2303 := by have := l.toNat_lt; omega
  have wK : IntKind.i64.wrap (N + (K : Int)) = N + (K : Int) := wr64_id (by unfold I64; omega)
  have pW : Plain (bCells (fW h l)) := bCells_plain _
  rw [fW_c] at pW
  have hD : HdT 8 ⟨bCells (fW h l), true, .cells true⟩ 13 := ⟨[0, 0, h, l], rfl, rfl, by show 4 ≤ 16384; decide⟩
  rw [fW_c] at hD
  have hI : IsB ⟨bCells (List.take 4 [0, 0, h, l]), true, .cells true⟩ 4 := isB_mk _ _ rfl
  have c0 : (bCells [0, 0, h, l])[0]? = some (.int .u8 0) := rfl
  have c1 : (bCells [0, 0, h, l])[1]? = some (.int .u8 0) := rfl
  have c2 : (bCells [0, 0, h, l])[2]? = some (.int .u8 (h.toNat : Int)) := rfl
  have c3 : (bCells [0, 0, h, l])[3]? = some (.int .u8 (l.toNat : Int)) := rfl
  have hR4 : rightB 8 0 1 4 = true := rfl
  simp only [← hK, wK, veq_int, veq_ag1, veq_slz0, c0, c1, c2, c3, hI, hR4, pW, hD, frW_pl, true_and, and_true]
  refine ⟨⟨by decide, ⟨x, rfl, hx, by omega⟩⟩, by decide, ?_⟩
  exact br_b rfl (br_b rfl (br_b rfl (br_b rfl (br_b rfl (br_b rfl (br_b rfl (br_b rfl (br_dec (by omega) (br_nd (by omega) (br_nd (by omega) (br_nd (by omega) (br_b rfl (br_b rfl trivial)))))))))))))
noncomputable def kR : Row → Nat := sealV fun r => ((dB r).getD 11 0).toNat * 256 + ((dB r).getD 12 0).toNat
def IsW (r : Row) : Prop := ∃ h l : UInt8, r = bRo (fW h l) ∧ 1 ≤ h.toNat * 256 + l.toNat ∧ h.toNat ≤ 8
def IsL (r : Row) (k : Nat) : Prop := ∃ x : List UInt8, r = bOwn x ∧ x.length = k ∧ k ≤ 1000
noncomputable def eFeW : EntM := (20, fun a r => match a, r with
  | [.pointer (some ⟨0, 0, none⟩), .slice (some ⟨1, 0, none⟩) nb 1], [r0, r1, r2, ⟨[.slice (some ⟨7, k, none⟩) n5 1, .int .i64 m2, .string t2, .int .i64 s2, .int .i64 c2, .int .i64 b2], false, .cells false⟩, r4, r5, r6, r7, r8, r9, ⟨[.int .i64 i9, .int .i64 st9, .int .i64 N, .int .i64 rc9, .bool x9, .bool y9], false, .cells false⟩] => (match r0 with
    | ⟨.bool _ :: .int .i64 _ :: .int .i64 _ :: .int .i64 _ :: .int .i64 _ :: .int .i64 _ :: .int .i64 v :: .int .i64 _ :: .int .i64 _ :: .slice (some ⟨2, 0, none⟩) qn 1 :: .pointer _ :: .pointer _ :: .pointer _ :: .int .i64 W :: _, false, .cells false⟩ =>
      some (nb = 13 ∧ r0 = cnE v W qn ∧ IsW r1 ∧ IsQ r2 qn ∧ (n5 = 0 ∧ m2 = 16384 ∧ t2 = ⟨#[]⟩ ∧ s2 = 0 ∧ c2 = 0 ∧ b2 = 0) ∧ r4 = unB 8 ∧ r5 = pkB 9 ∧ r6 = stD 10 ∧ IsL r7 k ∧ r8 = tbB ∧ r9 = tbB ∧ (i9 = 1 ∧ st9 = 3 ∧ rc9 = 65535 ∧ x9 = true ∧ y9 = true) ∧ (0 ≤ N ∧ N ≤ 100000),
        .slice none 0 0, 12, [(0, cnE v W qn), (2, r2), (3, cp.rdB 11 13 0), (4, unB 8), (5, pkB 9), (6, stD 10), (8, tbB), (9, tbB), (10, flD (N + (kR r1 : Nat))), (11, bOwn (yP r1))])
    | _ => none)
  | _, _ => none)
theorem kR_w (h l : UInt8) : kR (bRo (fW h l)) = h.toNat * 256 + l.toNat := by unfold kR; rw [sealV_eq]; simp only [dB_ro]; rfl
theorem yP_w2 (h l : UInt8) : yP (bRo (fW h l)) = fW h l := by unfold yP; rw [sealV_eq, dB_ro]
theorem eFeW_ok : EntOk Tryz.prog eFeW := by
  intro a rows p v n' rl h hp
  unfold eFeW at h
  simp only at h
  split at h
  · split at h
    · simp only [Option.some.injEq, Prod.mk.injEq] at h
      obtain ⟨rfl, rfl, rfl, rfl⟩ := h
      obtain ⟨rfl, e0, ⟨hb, lb, rfl, w1, w2⟩, ⟨q, rfl, rfl, hq⟩, ⟨rfl, rfl, rfl, rfl, rfl, rfl⟩, rfl, rfl, rfl, ⟨x, rfl, rfl, hx⟩, rfl, rfl, ⟨rfl, rfl, rfl, rfl, rfl⟩, h1, h2⟩ := hp
      rw [e0, kR_w, yP_w2]
      exact E_con _ _ _ q x _ hb lb w1 w2 rfl hx h1 h2
    · simp at h
  · simp at h
end Go.Proofs.YtcallecdjebojaaGreat.cw
