/- The document's own book of the code, made, whole. -/
import Derived.Test.YtellbmbklfbbfaaSz9
import Derived.Test.YtellbmbklfbbfaaRows
import Derived.Test.YtellbmbklfbbfaaLmdA
set_option maxRecDepth 20000
set_option linter.unusedSimpArgs false
set_option linter.unusedVariables false
namespace Go.Proofs.Ytellbmbklfbbfaa.md
open Go Go.Ev Go.Sy Go.RowKit Go.Proofs.Ytellbmbklfbbfaa.gl Go.Proofs.Ytellbmbklfbbfaa.tk Go.Proofs.Ytellbmbklfbbfaa.hf
noncomputable def pickK (n : Nat) (fr : Fr) (u : Option FrameMode) (h : Hp) (K : KO) : List Nat → Prop
  | [] => False
  | k :: l => bif Nat.beq n k then specK k fr u h K else pickK n fr u h K l
noncomputable def specMi : Sy.Spec := fun fr u h K => match fr.tm.find 3 with
  | some (.int .i64 (.ofNat n)) => pickK n fr u h K [1, 2, 3, 4, 5, 6, 7, 8, 9, 10, 11, 12, 13, 14, 15, 16, 17, 18, 19, 20, 21, 22, 23, 24, 25, 26, 27, 28, 29, 30]
  | _ => False
noncomputable def mMd := mOf [(53, pMi, specMi)]
def bkV : Value := .agg ⟨fstC 30 ++ manC 30 4 ++ frmC 30 ++ [.slice (some ⟨0, 0, none⟩) 257 1]⟩
set_option maxHeartbeats 4000000
theorem Md_vc (x : Nat) : mcall EtM mMd 60 53 [] ⟨mkR (nums 0 []), 0⟩ (retIs 0 bkV [⟨nC (syZ 31 0), false, .cells true⟩]) =
  (∃ g : Unit, ((True) /\ ((0 = 0) /\ ((0 = 0) /\ ((Int.ofNat (fstN 1 + usZ 1 0) = (0 : Int)) /\ (E1 (1 :: 0 :: ahL 1) ((Int.ofNat (usZ 1 0) = (0 : Int)) /\ (E1 (beL 1)
  (((List.length (syZ 1 0)) = 0) /\ ((Eq (α := List Value) (nC (syZ 1 0)) ([])) /\ (∀ (y : Unit), ((True) → (∃ g2 : Unit, ((True) /\ ((0 = 0) /\ ((0 = 0) /\ ((Int.ofNat
  (fstN 2 + usZ 2 0) = (0 : Int)) /\ (E1 (2 :: 0 :: ahL 2) ((Int.ofNat (usZ 2 0) = (0 : Int)) /\ (E1 (beL 2) ((0 = 0) /\ (((List.length (syZ 2 0)) = 0) /\ ((Eq (α := List
  Value) (nC (syZ 2 0)) (nC (syZ (1 + 1) 0))) /\ ((Plain (nC (syZ 2 0))) /\ (∀ (y2 : Unit), ((True) → (∃ g3 : Unit, ((True) /\ ((0 = 0) /\ ((0 = 0) /\ ((Int.ofNat (fstN 3 +
  usZ 3 0) = (0 : Int)) /\ (E1 (3 :: 0 :: ahL 3) ((Int.ofNat (usZ 3 0) = (0 : Int)) /\ (E1 (beL 3) ((0 = 0) /\ (((List.length (syZ 3 0)) = 0) /\ ((Eq (α := List Value) (nC
  (syZ 3 0)) (nC (syZ (2 + 1) 0))) /\ ((Plain (nC (syZ 3 0))) /\ (∀ (y3 : Unit), ((True) → (∃ g4 : Unit, ((True) /\ ((0 = 0) /\ ((0 = 0) /\ ((Int.ofNat (fstN 4 + usZ 4 0) =
  (0 : Int)) /\ (E1 (4 :: 0 :: ahL 4) ((Int.ofNat (usZ 4 0) = (0 : Int)) /\ (E1 (beL 4) ((0 = 0) /\ (((List.length (syZ 4 0)) = 0) /\ ((Eq (α := List Value) (nC (syZ 4 0))
  (nC (syZ (3 + 1) 0))) /\ ((Plain (nC (syZ 4 0))) /\ (∀ (y4 : Unit), ((True) → (∃ g5 : Unit, ((True) /\ ((0 = 0) /\ ((0 = 0) /\ ((Int.ofNat (fstN 5 + usZ 5 0) = (0 : Int))
  /\ (E1 (5 :: 0 :: ahL 5) ((Int.ofNat (usZ 5 0) = (0 : Int)) /\ (E1 (beL 5) ((0 = 0) /\ (((List.length (syZ 5 0)) = 0) /\ ((Eq (α := List Value) (nC (syZ 5 0)) (nC (syZ (4
  + 1) 0))) /\ ((Plain (nC (syZ 5 0))) /\ (∀ (y5 : Unit), ((True) → (∃ g6 : Unit, ((True) /\ ((0 = 0) /\ ((0 = 0) /\ ((Int.ofNat (fstN 6 + usZ 6 0) = (20 : Int)) /\ (E1 (6
  :: 0 :: ahL 6) ((Int.ofNat (usZ 6 0) = (0 : Int)) /\ (E1 (beL 6) ((0 = 0) /\ (((List.length (syZ 6 0)) = 10) /\ ((Eq (α := List Value) (nC (syZ 6 0)) (nC (syZ (5 + 1) 0)))
  /\ ((Plain (nC (syZ 6 0))) /\ (∀ (y6 : Unit), ((True) → (∃ g7 : Unit, ((True) /\ ((0 = 0) /\ ((0 = 0) /\ ((Int.ofNat (fstN 7 + usZ 7 0) = (92 : Int)) /\ (E1 (7 :: 0 :: ahL
  7) ((Int.ofNat (usZ 7 0) = (0 : Int)) /\ (E1 (beL 7) ((0 = 0) /\ (((List.length (syZ 7 0)) = 36) /\ ((Eq (α := List Value) (nC (syZ 7 0)) (nC (syZ (6 + 1) 0))) /\ ((Plain
  (nC (syZ 7 0))) /\ (∀ (y7 : Unit), ((True) → (∃ g8 : Unit, ((True) /\ ((0 = 0) /\ ((0 = 0) /\ ((Int.ofNat (fstN 8 + usZ 8 0) = (248 : Int)) /\ (E1 (8 :: 0 :: ahL 8)
  ((Int.ofNat (usZ 8 0) = (0 : Int)) /\ (E1 (beL 8) ((0 = 0) /\ (((List.length (syZ 8 0)) = 68) /\ ((Eq (α := List Value) (nC (syZ 8 0)) (nC (syZ (7 + 1) 0))) /\ ((Plain (nC
  (syZ 8 0))) /\ (∀ (y8 : Unit), ((True) → (∃ g9 : Unit, ((True) /\ ((0 = 0) /\ ((0 = 0) /\ ((Int.ofNat (fstN 9 + usZ 9 0) = (508 : Int)) /\ (E1 (9 :: 0 :: ahL 9)
  ((Int.ofNat (usZ 9 0) = (0 : Int)) /\ (E1 (beL 9) ((0 = 0) /\ (((List.length (syZ 9 0)) = 74) /\ ((Eq (α := List Value) (nC (syZ 9 0)) (nC (syZ (8 + 1) 0))) /\ ((Plain (nC
  (syZ 9 0))) /\ (∀ (y9 : Unit), ((True) → (∃ g10 : Unit, ((True) /\ ((0 = 0) /\ ((0 = 0) /\ ((Int.ofNat (fstN 10 + usZ 10 0) = (1016 : Int)) /\ (E1 (10 :: 0 :: ahL 10)
  ((Int.ofNat (usZ 10 0) = (0 : Int)) /\ (E1 (beL 10) ((0 = 0) /\ (((List.length (syZ 10 0)) = 74) /\ ((Eq (α := List Value) (nC (syZ 10 0)) (nC (syZ (9 + 1) 0))) /\ ((Plain
  (nC (syZ 10 0))) /\ (∀ (y10 : Unit), ((True) → (∃ g11 : Unit, ((True) /\ ((0 = 0) /\ ((0 = 0) /\ ((Int.ofNat (fstN 11 + usZ 11 0) = (2042 : Int)) /\ (E1 (11 :: 0 :: ahL
  11) ((Int.ofNat (usZ 11 0) = (0 : Int)) /\ (E1 (beL 11) ((0 = 0) /\ (((List.length (syZ 11 0)) = 79) /\ ((Eq (α := List Value) (nC (syZ 11 0)) (nC (syZ (10 + 1) 0))) /\
  ((Plain (nC (syZ 11 0))) /\ (∀ (y11 : Unit), ((True) → (∃ g12 : Unit, ((True) /\ ((0 = 0) /\ ((0 = 0) /\ ((Int.ofNat (fstN 12 + usZ 12 0) = (4090 : Int)) /\ (E1 (12 :: 0
  :: ahL 12) ((Int.ofNat (usZ 12 0) = (0 : Int)) /\ (E1 (beL 12) ((0 = 0) /\ (((List.length (syZ 12 0)) = 82) /\ ((Eq (α := List Value) (nC (syZ 12 0)) (nC (syZ (11 + 1)
  0))) /\ ((Plain (nC (syZ 12 0))) /\ (∀ (y12 : Unit), ((True) → (∃ g13 : Unit, ((True) /\ ((0 = 0) /\ ((0 = 0) /\ ((Int.ofNat (fstN 13 + usZ 13 0) = (8184 : Int)) /\ (E1
  (13 :: 0 :: ahL 13) ((Int.ofNat (usZ 13 0) = (0 : Int)) /\ (E1 (beL 13) ((0 = 0) /\ (((List.length (syZ 13 0)) = 84) /\ ((Eq (α := List Value) (nC (syZ 13 0)) (nC (syZ (12
  + 1) 0))) /\ ((Plain (nC (syZ 13 0))) /\ (∀ (y13 : Unit), ((True) → (∃ g14 : Unit, ((True) /\ ((0 = 0) /\ ((0 = 0) /\ ((Int.ofNat (fstN 14 + usZ 14 0) = (16380 : Int)) /\
  (E1 (14 :: 0 :: ahL 14) ((Int.ofNat (usZ 14 0) = (0 : Int)) /\ (E1 (beL 14) ((0 = 0) /\ (((List.length (syZ 14 0)) = 90) /\ ((Eq (α := List Value) (nC (syZ 14 0)) (nC (syZ
  (13 + 1) 0))) /\ ((Plain (nC (syZ 14 0))) /\ (∀ (y14 : Unit), ((True) → (∃ g15 : Unit, ((True) /\ ((0 = 0) /\ ((0 = 0) /\ ((Int.ofNat (fstN 15 + usZ 15 0) = (32764 : Int))
  /\ (E1 (15 :: 0 :: ahL 15) ((Int.ofNat (usZ 15 0) = (0 : Int)) /\ (E1 (beL 15) ((0 = 0) /\ (((List.length (syZ 15 0)) = 92) /\ ((Eq (α := List Value) (nC (syZ 15 0)) (nC
  (syZ (14 + 1) 0))) /\ ((Plain (nC (syZ 15 0))) /\ (∀ (y15 : Unit), ((True) → (∃ g16 : Unit, ((True) /\ ((0 = 0) /\ ((0 = 0) /\ ((Int.ofNat (fstN 16 + usZ 16 0) = (65534 :
  Int)) /\ (E1 (16 :: 0 :: ahL 16) ((Int.ofNat (usZ 16 0) = (0 : Int)) /\ (E1 (beL 16) ((0 = 0) /\ (((List.length (syZ 16 0)) = 95) /\ ((Eq (α := List Value) (nC (syZ 16 0))
  (nC (syZ (15 + 1) 0))) /\ ((Plain (nC (syZ 16 0))) /\ (∀ (y16 : Unit), ((True) → (∃ g17 : Unit, ((True) /\ ((0 = 0) /\ ((0 = 0) /\ ((Int.ofNat (fstN 17 + usZ 17 0) =
  (131068 : Int)) /\ (E1 (17 :: 0 :: ahL 17) ((Int.ofNat (usZ 17 0) = (0 : Int)) /\ (E1 (beL 17) ((0 = 0) /\ (((List.length (syZ 17 0)) = 95) /\ ((Eq (α := List Value) (nC
  (syZ 17 0)) (nC (syZ (16 + 1) 0))) /\ ((Plain (nC (syZ 17 0))) /\ (∀ (y17 : Unit), ((True) → (∃ g18 : Unit, ((True) /\ ((0 = 0) /\ ((0 = 0) /\ ((Int.ofNat (fstN 18 + usZ
  18 0) = (262136 : Int)) /\ (E1 (18 :: 0 :: ahL 18) ((Int.ofNat (usZ 18 0) = (0 : Int)) /\ (E1 (beL 18) ((0 = 0) /\ (((List.length (syZ 18 0)) = 95) /\ ((Eq (α := List
  Value) (nC (syZ 18 0)) (nC (syZ (17 + 1) 0))) /\ ((Plain (nC (syZ 18 0))) /\ (∀ (y18 : Unit), ((True) → (∃ g19 : Unit, ((True) /\ ((0 = 0) /\ ((0 = 0) /\ ((Int.ofNat (fstN
  19 + usZ 19 0) = (524272 : Int)) /\ (E1 (19 :: 0 :: ahL 19) ((Int.ofNat (usZ 19 0) = (0 : Int)) /\ (E1 (beL 19) ((0 = 0) /\ (((List.length (syZ 19 0)) = 95) /\ ((Eq (α :=
  List Value) (nC (syZ 19 0)) (nC (syZ (18 + 1) 0))) /\ ((Plain (nC (syZ 19 0))) /\ (∀ (y19 : Unit), ((True) → (∃ g20 : Unit, ((True) /\ ((0 = 0) /\ ((0 = 0) /\ ((Int.ofNat
  (fstN 20 + usZ 20 0) = (1048550 : Int)) /\ (E1 (20 :: 0 :: ahL 20) ((Int.ofNat (usZ 20 0) = (0 : Int)) /\ (E1 (beL 20) ((0 = 0) /\ (((List.length (syZ 20 0)) = 98) /\ ((Eq
  (α := List Value) (nC (syZ 20 0)) (nC (syZ (19 + 1) 0))) /\ ((Plain (nC (syZ 20 0))) /\ (∀ (y20 : Unit), ((True) → (∃ g21 : Unit, ((True) /\ ((0 = 0) /\ ((0 = 0) /\
  ((Int.ofNat (fstN 21 + usZ 21 0) = (2097116 : Int)) /\ (E1 (21 :: 0 :: ahL 21) ((Int.ofNat (usZ 21 0) = (0 : Int)) /\ (E1 (beL 21) ((0 = 0) /\ (((List.length (syZ 21 0)) =
  106) /\ ((Eq (α := List Value) (nC (syZ 21 0)) (nC (syZ (20 + 1) 0))) /\ ((Plain (nC (syZ 21 0))) /\ (∀ (y21 : Unit), ((True) → (∃ g22 : Unit, ((True) /\ ((0 = 0) /\ ((0 =
  0) /\ ((Int.ofNat (fstN 22 + usZ 22 0) = (4194258 : Int)) /\ (E1 (22 :: 0 :: ahL 22) ((Int.ofNat (usZ 22 0) = (0 : Int)) /\ (E1 (beL 22) ((0 = 0) /\ (((List.length (syZ 22
  0)) = 119) /\ ((Eq (α := List Value) (nC (syZ 22 0)) (nC (syZ (21 + 1) 0))) /\ ((Plain (nC (syZ 22 0))) /\ (∀ (y22 : Unit), ((True) → (∃ g23 : Unit, ((True) /\ ((0 = 0) /\
  ((0 = 0) /\ ((Int.ofNat (fstN 23 + usZ 23 0) = (8388568 : Int)) /\ (E1 (23 :: 0 :: ahL 23) ((Int.ofNat (usZ 23 0) = (0 : Int)) /\ (E1 (beL 23) ((0 = 0) /\ (((List.length
  (syZ 23 0)) = 145) /\ ((Eq (α := List Value) (nC (syZ 23 0)) (nC (syZ (22 + 1) 0))) /\ ((Plain (nC (syZ 23 0))) /\ (∀ (y23 : Unit), ((True) → (∃ g24 : Unit, ((True) /\ ((0
  = 0) /\ ((0 = 0) /\ ((Int.ofNat (fstN 24 + usZ 24 0) = (16777194 : Int)) /\ (E1 (24 :: 0 :: ahL 24) ((Int.ofNat (usZ 24 0) = (0 : Int)) /\ (E1 (beL 24) ((0 = 0) /\
  (((List.length (syZ 24 0)) = 174) /\ ((Eq (α := List Value) (nC (syZ 24 0)) (nC (syZ (23 + 1) 0))) /\ ((Plain (nC (syZ 24 0))) /\ (∀ (y24 : Unit), ((True) → (∃ g25 : Unit,
  ((True) /\ ((0 = 0) /\ ((0 = 0) /\ ((Int.ofNat (fstN 25 + usZ 25 0) = (33554412 : Int)) /\ (E1 (25 :: 0 :: ahL 25) ((Int.ofNat (usZ 25 0) = (0 : Int)) /\ (E1 (beL 25) ((0
  = 0) /\ (((List.length (syZ 25 0)) = 186) /\ ((Eq (α := List Value) (nC (syZ 25 0)) (nC (syZ (24 + 1) 0))) /\ ((Plain (nC (syZ 25 0))) /\ (∀ (y25 : Unit), ((True) → (∃ g26
  : Unit, ((True) /\ ((0 = 0) /\ ((0 = 0) /\ ((Int.ofNat (fstN 26 + usZ 26 0) = (67108832 : Int)) /\ (E1 (26 :: 0 :: ahL 26) ((Int.ofNat (usZ 26 0) = (0 : Int)) /\ (E1 (beL
  26) ((0 = 0) /\ (((List.length (syZ 26 0)) = 190) /\ ((Eq (α := List Value) (nC (syZ 26 0)) (nC (syZ (25 + 1) 0))) /\ ((Plain (nC (syZ 26 0))) /\ (∀ (y26 : Unit), ((True)
  → (∃ g27 : Unit, ((True) /\ ((0 = 0) /\ ((0 = 0) /\ ((Int.ofNat (fstN 27 + usZ 27 0) = (134217694 : Int)) /\ (E1 (27 :: 0 :: ahL 27) ((Int.ofNat (usZ 27 0) = (0 : Int)) /\
  (E1 (beL 27) ((0 = 0) /\ (((List.length (syZ 27 0)) = 205) /\ ((Eq (α := List Value) (nC (syZ 27 0)) (nC (syZ (26 + 1) 0))) /\ ((Plain (nC (syZ 27 0))) /\ (∀ (y27 : Unit),
  ((True) → (∃ g28 : Unit, ((True) /\ ((0 = 0) /\ ((0 = 0) /\ ((Int.ofNat (fstN 28 + usZ 28 0) = (268435426 : Int)) /\ (E1 (28 :: 0 :: ahL 28) ((Int.ofNat (usZ 28 0) = (0 :
  Int)) /\ (E1 (beL 28) ((0 = 0) /\ (((List.length (syZ 28 0)) = 224) /\ ((Eq (α := List Value) (nC (syZ 28 0)) (nC (syZ (27 + 1) 0))) /\ ((Plain (nC (syZ 28 0))) /\ (∀ (y28
  : Unit), ((True) → (∃ g29 : Unit, ((True) /\ ((0 = 0) /\ ((0 = 0) /\ ((Int.ofNat (fstN 29 + usZ 29 0) = (536870910 : Int)) /\ (E1 (29 :: 0 :: ahL 29) ((Int.ofNat (usZ 29
  0) = (0 : Int)) /\ (E1 (beL 29) ((0 = 0) /\ (((List.length (syZ 29 0)) = 253) /\ ((Eq (α := List Value) (nC (syZ 29 0)) (nC (syZ (28 + 1) 0))) /\ ((Plain (nC (syZ 29 0)))
  /\ (∀ (y29 : Unit), ((True) → (∃ g30 : Unit, ((True) /\ ((0 = 0) /\ ((0 = 0) /\ ((Int.ofNat (fstN 30 + usZ 30 0) = (1073741820 : Int)) /\ (E1 (30 :: 0 :: ahL 30)
  ((Int.ofNat (usZ 30 0) = (0 : Int)) /\ (E1 (beL 30) ((0 = 0) /\ (((List.length (syZ 30 0)) = 253) /\ ((Eq (α := List Value) (nC (syZ 30 0)) (nC (syZ (29 + 1) 0))) /\
  ((Plain (nC (syZ 30 0))) /\ (∀ (y30 : Unit), ((True) → (E1 [0, 0, 0, 0, 0, 0, 20, 92, 248, 508, 1016, 2042, 4090, 8184, 16380, 32764, 65534, 131068, 262136, 524272,
  1048550, 2097116, 4194258, 8388568, 16777194, 33554412, 67108832, 134217694, 268435426, 536870910, 1073741820, 0, 0, 0, 0, 0, 10, 26, 32, 6, 0, 5, 3, 2, 6, 2, 3, 0, 0, 0,
  3, 8, 13, 26, 29, 12, 4, 15, 19, 29, 0, 4, 0, 0, 0, 0, 0, 0, 10, 36, 68, 74, 74, 79, 82, 84, 90, 92, 95, 95, 95, 95, 98, 106, 119, 145, 174, 186, 190, 205, 224, 253, 253]
  ((0 = 0) /\ ((257 = 257) /\ ((Eq (α := List Value) (nC (syZ 31 0)) (nC (syZ (30 + 1) 0))) /\ ((Plain (nC (syZ 31 0))) /\
  True))))))))))))))))))))))))))))))))))))))))))))))))))))))))))))))))))))))))))))))))))))))))))))))))))))))))))))))))))))))))))))))))))))))))))))))))))))))))))))))))))))))))))))))))))))))))))))))))))))))))))))))))))))))))))))))))))))))))))))))))))))))))))))))))))))))))))))))))))))))))))))))))))))))))))))))))))))))))))))))))))))))))))))))))))))))))))))))))))))))))))))))))))))))))))))))))))))))))))))))))))))))))))))))))))))))) := by kernel_rfl
theorem all_piece : ∀ n, 1 ≤ n → n ≤ 30 → PieceOk EtM 0 (53, pMi, specK n)
  | 0, h, _ => absurd h (by omega)
  | 1, a, b => M_piece 1 a b M1_round
  | 2, a, b => M_piece 2 a b M2_round
  | 3, a, b => M_piece 3 a b M3_round
  | 4, a, b => M_piece 4 a b M4_round
  | 5, a, b => M_piece 5 a b M5_round
  | 6, a, b => M_piece 6 a b M6_round
  | 7, a, b => M_piece 7 a b M7_round
  | 8, a, b => M_piece 8 a b M8_round
  | 9, a, b => M_piece 9 a b M9_round
  | 10, a, b => M_piece 10 a b M10_round
  | 11, a, b => M_piece 11 a b M11_round
  | 12, a, b => M_piece 12 a b M12_round
  | 13, a, b => M_piece 13 a b M13_round
  | 14, a, b => M_piece 14 a b M14_round
  | 15, a, b => M_piece 15 a b M15_round
  | 16, a, b => M_piece 16 a b M16_round
  | 17, a, b => M_piece 17 a b M17_round
  | 18, a, b => M_piece 18 a b M18_round
  | 19, a, b => M_piece 19 a b M19_round
  | 20, a, b => M_piece 20 a b M20_round
  | 21, a, b => M_piece 21 a b M21_round
  | 22, a, b => M_piece 22 a b M22_round
  | 23, a, b => M_piece 23 a b M23_round
  | 24, a, b => M_piece 24 a b M24_round
  | 25, a, b => M_piece 25 a b M25_round
  | 26, a, b => M_piece 26 a b M26_round
  | 27, a, b => M_piece 27 a b M27_round
  | 28, a, b => M_piece 28 a b M28_round
  | 29, a, b => M_piece 29 a b M29_round
  | 30, a, b => M_piece 30 a b M30_round
  | n + 31, _, h => absurd h (by omega)
theorem pick_ok (n : Nat) (fr : Fr) (u : Option FrameMode) (h : Hp) (K : KO) : ∀ l : List Nat, pickK n fr u h K l → n ∈ l ∧ specK n fr u h K
  | [], hs => hs.elim
  | k :: l, hs => by
    unfold pickK at hs
    cases hb : Nat.beq n k with
    | true =>
      rw [hb] at hs
      have := Nat.eq_of_beq_eq_true hb
      subst this
      exact ⟨List.mem_cons_self .., hs⟩
    | false =>
      rw [hb] at hs
      obtain ⟨a, b⟩ := pick_ok n fr u h K l hs
      exact ⟨List.mem_cons_of_mem _ a, b⟩
theorem md_piece : PieceOk EtM 0 (53, pMi, specMi) := by
  intro fn c0 c h1 h2 h3 fr u h K hs
  simp only [specMi] at hs
  split at hs
  · rename_i n _
    obtain ⟨a, b⟩ := pick_ok n fr u h K _ hs
    simp only [List.mem_cons, List.mem_nil_iff, or_false] at a
    exact all_piece n (by omega) (by omega) fn c0 c h1 h2 h3 fr u h K b
  · exact hs.elim
theorem u0 (K : Nat) : usZ K 0 = 0 := by rw [z_us]; rfl
theorem l0a : ∀ K : Fin 32, (syL K.1 0).length = stM K.1 := by decide +kernel
theorem l0 (K : Nat) (h : K < 32) : (syZ K 0).length = stM K := by rw [z_sy]; exact l0a ⟨K, h⟩
theorem Md_con : Con Try.prog 53 [] [] bkV [⟨nC (syZ 31 0), false, .cells true⟩] := by
  refine con_vc (E := EtM) tk.mixed (calls_envT tM_ok) (lok_envT _ _) (M := mMd) (lm_one md_piece) (Md_vc 0) ?_
  simp only [ofNat_eq, toNat_cast, Nat.zero_add, Nat.add_zero, Nat.mul_one, List.drop_zero, bCells_len, bCells_drop, bCells_take, bCells_app, bCells_one, bCells_plain, List.length_replicate, List.length_append, List.length_take, List.length_drop, List.take_length, and_true, true_and, and_self, decide_true, List.length_nil, List.length_cons, Nat.sub_zero, dB_mk, dB_ro, List.take_zero, E0, E1_eq]
  refine ⟨(), by rw [u0]; rfl, by rw [u0]; rfl, l0 1 (by omega), by rw [z_sy]; rfl, fun _ _ => ?_⟩
  iterate 29 (refine ⟨(), by rw [u0]; rfl, by rw [u0]; rfl, l0 _ (by omega), nC_plain _, fun _ _ => ?_⟩)
  exact nC_plain _
theorem sy_all : syZ 31 0 = ordL := by rw [z_sy]; decide +kernel
end Go.Proofs.Ytellbmbklfbbfaa.md
