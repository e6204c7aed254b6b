/- The document's own Decode. -/
import Derived.Test.YtellbmbklfbbfaaSz9
import Derived.Test.YtellbmbklfbbfaaRows
import Derived.Test.YtellbmbklfbbfaaLmdB
import Derived.Test.YtellbmbklfbbfaaLhfD7
set_option maxRecDepth 20000
set_option linter.unusedSimpArgs false
set_option linter.unusedVariables false
namespace Go.Proofs.Ytellbmbklfbbfaa.md
open Go Go.Ev Go.Sy Go.RowKit Go.Proofs.Ytellbmbklfbbfaa.gl Go.Proofs.Ytellbmbklfbbfaa.tk Go.Proofs.Ytellbmbklfbbfaa.hf
noncomputable def bkO : List Nat := sealV ordL
noncomputable def eMade : EntM := entC 53 fun a r => match a, r with
  | [], [] => some (True, bkV, [⟨nC bkO, false, .cells true⟩])
  | _, _ => none
noncomputable def tRd : List EntM := [eMade]
noncomputable abbrev EtRd : Env := envT Try.prog tRd
def pRd : List Nat := [0, 1, 0, 1, 1, 1, 1, 1]
def bkA : List Value := fstC 30 ++ manC 30 4 ++ frmC 30 ++ [.slice (some ⟨2, 0, none⟩) 257 1]
def bkI : List Int := (fstL ++ cntL ++ stL).map Int.ofNat
def bkRow : Row := ⟨bkA, false, .cells false⟩
def alB (R : List Bool) : Bool := R.all id
def slRd (l : List UInt8) (s : Nat × List UInt8 × List Bool) : List (Nat × Value) := [(0, slc 0 l.length), (4, .pointer (some ⟨1, 0, none⟩)), (5, slc 3 s.2.1.length), (6, .int .i64 (val s.2.2 : Nat)), (7, .int .i64 (s.2.2.length : Nat)), (8, .bool (alB s.2.2)), (9, .int .i64 (s.1 : Nat))]
noncomputable def rlRd (l o : List UInt8) : List (Nat × Row) := [(0, bRo l), (1, bkRow), (2, ⟨nC bkO, false, .cells true⟩), (3, bOwn o)]
noncomputable def wsRd (l : List UInt8) : List (Gate (List UInt8 × List Bool)) := [⟨.exit 0, fun y => decO l = some y ∧ y.2.length ≤ 29, fun y => [(5, slc 3 y.1.length), (7, .int .i64 (y.2.length : Nat)), (8, .bool (alB y.2))], fun y => [(0, bRo l), (3, bOwn y.1)], 4⟩, ⟨.ret, fun _ => decO l = none, fun _ => [(2, .string ⟨#[]⟩), (3, .int .i64 4)], fun _ => [(0, bRo l)], 4⟩]
noncomputable def specRd : Sy.Spec := specOf 1 4 84 (fun l : List UInt8 => l.length ≤ 1048576) (fun l => slRd l (0, [], [])) (fun l => rlRd l []) wsRd
noncomputable def mRd := mOf [(49, pRd, specRd)]
theorem Rd_round (l : List UInt8) (s : Nat × List UInt8 × List Bool) (Inv : Nat × List UInt8 × List Bool → Prop) (m : Nat × List UInt8 × List Bool → Nat) : mev EtRd noM 60 49 (0 :: pRd) false (codeOf Try.prog 49 (0 :: pRd)) ⟨mkOv (slRd l s), 84, []⟩ none ⟨mkR (rlRd l s.2.1), 4⟩ (roundK 1 4 84 Inv m (slRd l) (fun s => rlRd l s.2.1) (wsRd l) s) =
  let z3 := (IntKind.wrap IntKind.i64 ((↑(List.length s.2.2) : Int) + (1 : Int))); let z10 := (ishl IntKind.i64 (↑(val s.2.2) : Int) (1 : Int)); let z20 := (IntKind.wrap
  IntKind.i64 (Int.tdiv (↑s.1 : Int) (8 : Int))); let z2 := (IntKind.wrap IntKind.i64 (ishr IntKind.u8 (cellI (bCells l) (0 + Int.toNat z20 * 1)) (IntKind.wrap IntKind.i64
  ((7 : Int) - Int.tmod (↑s.1 : Int) (8 : Int))))); let z6 := (ior IntKind.i64 z10 (iand IntKind.i64 z2 (1 : Int)) - cellI bkA (0 + Int.toNat z3 * 1)); let z1 := (cellI bkA
  (62 + Int.toNat z3 * 1) + IntKind.wrap IntKind.i64 z6); let z4 := (decide ((0 : Int) <= IntKind.wrap IntKind.i64 ((↑(List.length s.2.2) : Int) + (1 : Int)) /\ IntKind.wrap
  IntKind.i64 ((↑(List.length s.2.2) : Int) + (1 : Int)) < (31 : Int))); let z5 := (cellI (nC bkO) (0 + Int.toNat (IntKind.wrap IntKind.i64 z1) * 1)); let z7 := (Eq (α :=
  Option Value) (bkA[62 + Int.toNat z3 * 1]?) (some (Value.int IntKind.i64 (cellI bkA (62 + Int.toNat z3 * 1))))); let z8 := (Eq (α := Option Value) ((nC bkO)[0 + Int.toNat
  (IntKind.wrap IntKind.i64 z1) * 1]?) (some (Value.int IntKind.i64 z5))); let z9 := ((Eq (α := Option (List UInt8 × List Bool)) (decO l) (none)) /\ ((ByteArray.mk #[] =
  ByteArray.mk #[]) /\ ((E0 4) /\ ((Eq (α := List Value) (bCells l) (bCells l)) /\ ((Plain (bCells l)) /\ True))))); let z11 := (Eq (α := Option Value) (bkA[31 + Int.toNat
  z3 * 1]?) (some (Value.int IntKind.i64 (cellI bkA (31 + Int.toNat z3 * 1))))); let z12 := (Eq (α := Option Value) (bkA[0 + Int.toNat z3 * 1]?) (some (Value.int IntKind.i64
  (cellI bkA (0 + Int.toNat z3 * 1))))); let z13 := (Value.int IntKind.i64 (cellI bkA (62 + Int.toNat z3 * 1)) = Value.int IntKind.i64 (cellI bkA (62 + Int.toNat z3 * 1)));
  let z14 := (List.take (List.length s.2.1 * 1) (List.drop 0 (bCells s.2.1)) ++ [Value.int IntKind.u8 (IntKind.wrap IntKind.u8 z5)]); let z15 := (decide ((0 : Int) <=
  IntKind.wrap IntKind.i64 z1 /\ IntKind.wrap IntKind.i64 z1 < (257 : Int))); let z16 := (Value.slice (some (Addr.mk 2 0 none)) 257 1 = Value.slice (some (Addr.mk 2 0 none))
  257 1); let z17 := (cellI (nC bkO) (0 + Int.toNat (IntKind.wrap IntKind.i64 z1) * 1) == (256 : Int)); let z18 := (decide (IntKind.wrap IntKind.i64 z6 < cellI bkA (31 +
  Int.toNat z3 * 1))); let z19 := (decide (0 + List.length s.2.1 * 1 <= List.length (bCells s.2.1))); let z21 := (Value.int IntKind.i64 z5 = Value.int IntKind.i64 z5); let
  z22 := (decide (IntKind.wrap IntKind.i64 z6 ≥ (0 : Int))); (br (decide ((↑s.1 : Int) < IntKind.wrap IntKind.i64 ((8 : Int) * Int.ofNat (List.length l)))) (br (decide ((0 :
  Int) <= IntKind.wrap IntKind.i64 (Int.tdiv (↑s.1 : Int) (8 : Int)) /\ IntKind.wrap IntKind.i64 (Int.tdiv (↑s.1 : Int) (8 : Int)) < (↑(List.length l) : Int))) ((Eq (α :=
  Option Value) ((bCells l)[0 + Int.toNat z20 * 1]?) (some (Value.int IntKind.u8 (cellI (bCells l) (0 + Int.toNat z20 * 1))))) /\ (br (decide ((0 : Int) <= IntKind.wrap
  IntKind.i64 ((7 : Int) - Int.tmod (↑s.1 : Int) (8 : Int)))) (br (alB s.2.2) (br z4 (z12 /\ (br z22 (br z4 (z11 /\ (br z18 (br z4 (z7 /\ (br z15 (z8 /\ (z16 /\ (z7 /\ (z13
  /\ (z8 /\ (z21 /\ (br z17 (∃ y : List UInt8 × List Bool, z9) (br (decide (List.length s.2.1 + 1 <= 16777216)) (br z19 (∃ j : Nat × List UInt8 × List Bool, ((Inv j) /\ ((m
  j < m s) /\ ((0 = 0) /\ ((List.length l = List.length l) /\ ((0 = 0) /\ ((0 = 0) /\ ((List.length j.2.1 = List.length s.2.1 + 1) /\ (((↑(val j.2.2) : Int) = (0 : Int)) /\
  (((↑(List.length j.2.2) : Int) = (0 : Int)) /\ ((alB j.2.2 = true) /\ (((↑j.1 : Int) = IntKind.wrap IntKind.i64 ((↑s.1 : Int) + (1 : Int))) /\ ((Eq (α := List Value)
  (bCells l) (bCells l)) /\ ((Plain (bCells l)) /\ (E1 bkI ((0 = 0) /\ ((257 = 257) /\ ((Eq (α := List Value) (nC bkO) (nC bkO)) /\ ((Plain (nC bkO)) /\ ((Eq (α := List
  Value) (bCells j.2.1) z14) /\ ((Plain (bCells j.2.1)) /\ True))))))))))))))))))))) False) False)))))))) False)) False) (∃ j : Nat × List UInt8 × List Bool, ((Inv j) /\ ((m
  j < m s) /\ ((0 = 0) /\ ((List.length l = List.length l) /\ ((0 = 0) /\ ((0 = 0) /\ ((List.length j.2.1 = List.length s.2.1) /\ (((↑(val j.2.2) : Int) = ior IntKind.i64
  z10 (iand IntKind.i64 z2 (1 : Int))) /\ (((↑(List.length j.2.2) : Int) = IntKind.wrap IntKind.i64 ((↑(List.length s.2.2) : Int) + (1 : Int))) /\ ((alB j.2.2 = (iand
  IntKind.i64 z2 (1 : Int) == (1 : Int))) /\ (((↑j.1 : Int) = IntKind.wrap IntKind.i64 ((↑s.1 : Int) + (1 : Int))) /\ ((Eq (α := List Value) (bCells l) (bCells l)) /\
  ((Plain (bCells l)) /\ (E1 bkI ((0 = 0) /\ ((257 = 257) /\ ((Eq (α := List Value) (nC bkO) (nC bkO)) /\ ((Plain (nC bkO)) /\ ((Eq (α := List Value) (bCells j.2.1) (bCells
  s.2.1)) /\ ((Plain (bCells j.2.1)) /\ True))))))))))))))))))))))) False) (∃ j : Nat × List UInt8 × List Bool, ((Inv j) /\ ((m j < m s) /\ ((0 = 0) /\ ((List.length l =
  List.length l) /\ ((0 = 0) /\ ((0 = 0) /\ ((List.length j.2.1 = List.length s.2.1) /\ (((↑(val j.2.2) : Int) = ior IntKind.i64 z10 (iand IntKind.i64 z2 (1 : Int))) /\
  (((↑(List.length j.2.2) : Int) = IntKind.wrap IntKind.i64 ((↑(List.length s.2.2) : Int) + (1 : Int))) /\ ((alB j.2.2 = (iand IntKind.i64 z2 (1 : Int) == (1 : Int))) /\
  (((↑j.1 : Int) = IntKind.wrap IntKind.i64 ((↑s.1 : Int) + (1 : Int))) /\ ((Eq (α := List Value) (bCells l) (bCells l)) /\ ((Plain (bCells l)) /\ (E1 bkI ((0 = 0) /\ ((257
  = 257) /\ ((Eq (α := List Value) (nC bkO) (nC bkO)) /\ ((Plain (nC bkO)) /\ ((Eq (α := List Value) (bCells j.2.1) (bCells s.2.1)) /\ ((Plain (bCells j.2.1)) /\
  True))))))))))))))))))))))) False) (br z4 (z12 /\ (br z22 (br z4 (z11 /\ (br z18 (br z4 (z7 /\ (br z15 (z8 /\ (z16 /\ (z7 /\ (z13 /\ (z8 /\ (z21 /\ (br z17 (∃ y : List
  UInt8 × List Bool, z9) (br (decide (List.length s.2.1 + 1 <= 16777216)) (br z19 (∃ j : Nat × List UInt8 × List Bool, ((Inv j) /\ ((m j < m s) /\ ((0 = 0) /\ ((List.length
  l = List.length l) /\ ((0 = 0) /\ ((0 = 0) /\ ((List.length j.2.1 = List.length s.2.1 + 1) /\ (((↑(val j.2.2) : Int) = (0 : Int)) /\ (((↑(List.length j.2.2) : Int) = (0 :
  Int)) /\ ((alB j.2.2 = true) /\ (((↑j.1 : Int) = IntKind.wrap IntKind.i64 ((↑s.1 : Int) + (1 : Int))) /\ ((Eq (α := List Value) (bCells l) (bCells l)) /\ ((Plain (bCells
  l)) /\ (E1 bkI ((0 = 0) /\ ((257 = 257) /\ ((Eq (α := List Value) (nC bkO) (nC bkO)) /\ ((Plain (nC bkO)) /\ ((Eq (α := List Value) (bCells j.2.1) z14) /\ ((Plain (bCells
  j.2.1)) /\ True))))))))))))))))))))) False) False)))))))) False)) False) (∃ j : Nat × List UInt8 × List Bool, ((Inv j) /\ ((m j < m s) /\ ((0 = 0) /\ ((List.length l =
  List.length l) /\ ((0 = 0) /\ ((0 = 0) /\ ((List.length j.2.1 = List.length s.2.1) /\ (((↑(val j.2.2) : Int) = ior IntKind.i64 z10 (iand IntKind.i64 z2 (1 : Int))) /\
  (((↑(List.length j.2.2) : Int) = IntKind.wrap IntKind.i64 ((↑(List.length s.2.2) : Int) + (1 : Int))) /\ ((alB j.2.2 = false) /\ (((↑j.1 : Int) = IntKind.wrap IntKind.i64
  ((↑s.1 : Int) + (1 : Int))) /\ ((Eq (α := List Value) (bCells l) (bCells l)) /\ ((Plain (bCells l)) /\ (E1 bkI ((0 = 0) /\ ((257 = 257) /\ ((Eq (α := List Value) (nC bkO)
  (nC bkO)) /\ ((Plain (nC bkO)) /\ ((Eq (α := List Value) (bCells j.2.1) (bCells s.2.1)) /\ ((Plain (bCells j.2.1)) /\ True))))))))))))))))))))))) False) (∃ j : Nat × List
  UInt8 × List Bool, ((Inv j) /\ ((m j < m s) /\ ((0 = 0) /\ ((List.length l = List.length l) /\ ((0 = 0) /\ ((0 = 0) /\ ((List.length j.2.1 = List.length s.2.1) /\ (((↑(val
  j.2.2) : Int) = ior IntKind.i64 z10 (iand IntKind.i64 z2 (1 : Int))) /\ (((↑(List.length j.2.2) : Int) = IntKind.wrap IntKind.i64 ((↑(List.length s.2.2) : Int) + (1 :
  Int))) /\ ((alB j.2.2 = false) /\ (((↑j.1 : Int) = IntKind.wrap IntKind.i64 ((↑s.1 : Int) + (1 : Int))) /\ ((Eq (α := List Value) (bCells l) (bCells l)) /\ ((Plain (bCells
  l)) /\ (E1 bkI ((0 = 0) /\ ((257 = 257) /\ ((Eq (α := List Value) (nC bkO) (nC bkO)) /\ ((Plain (nC bkO)) /\ ((Eq (α := List Value) (bCells j.2.1) (bCells s.2.1)) /\
  ((Plain (bCells j.2.1)) /\ True))))))))))))))))))))))) False)) False)) False) (∃ y : List UInt8 × List Bool, (((Eq (α := Option (List UInt8 × List Bool)) (decO l) (some y)
  /\ List.length y.2 <= 29)) /\ ((0 = 0) /\ ((List.length y.1 = List.length s.2.1) /\ (((↑(List.length y.2) : Int) = (↑(List.length s.2.2) : Int)) /\ ((alB y.2 = alB s.2.2)
  /\ ((Eq (α := List Value) (bCells l) (bCells l)) /\ ((Plain (bCells l)) /\ ((Eq (α := List Value) (bCells y.1) (bCells s.2.1)) /\ ((Plain (bCells y.1)) /\ True))))))))))) := by kernel_rfl
theorem Rd_vc (l : List UInt8) (t : List UInt8) (e : Int) : mcall EtRd mRd 60 49 [slc 0 l.length] ⟨mkR (nums 0 [bRo l]), 1⟩ (retIs 1 (.tuple #[.string (bs t), .int .i64 e]) [bRo l]) =
  (((True /\ (True /\ ((Plain (nC bkO) /\ True) /\ True)))) /\ (∃ g : List UInt8, ((List.length g <= 1048576) /\ ((0 = 0) /\ ((List.length g = List.length l) /\ ((0 = 0) /\
  ((0 = 0) /\ ((E0 0) /\ ((E0 0) /\ ((true = true) /\ ((E0 0) /\ ((Eq (α := List Value) (bCells g) (bCells l)) /\ ((Plain (bCells g)) /\ (E1 bkI ((0 = 0) /\ ((257 = 257) /\
  ((Eq (α := List Value) (nC bkO) (nC bkO)) /\ ((Plain (nC bkO)) /\ ((Eq (α := List Value) ([]) ([])) /\ (∀ (side : Bool), (br (side) (∀ (y : List UInt8 × List Bool), ((decO
  g = some y /\ List.length y.2 <= 29) → (br (decide ((↑(List.length y.2) : Int) > (7 : Int))) ((bs t = ByteArray.mk #[]) /\ ((e = (4 : Int)) /\ ((Eq (α := List Value)
  (bCells l) (bCells g)) /\ ((Plain (bCells l)) /\ True)))) (br (!alB y.2) ((bs t = ByteArray.mk #[]) /\ ((e = (4 : Int)) /\ ((Eq (α := List Value) (bCells l) (bCells g)) /\
  ((Plain (bCells l)) /\ True)))) (br (decide (0 + List.length y.1 <= List.length (bCells y.1))) ((AllB (List.take (List.length y.1) (List.drop 0 (bCells y.1)))) /\ ((bs t =
  ByteArray.mk (Array.mk (List.map bOf (List.take (List.length y.1) (List.drop 0 (bCells y.1)))))) /\ ((e = (0 : Int)) /\ ((Eq (α := List Value) (bCells l) (bCells g)) /\
  ((Plain (bCells l)) /\ True))))) False))))) (∀ (y : List UInt8 × List Bool), ((decO g = none) → ((bs t = ByteArray.mk #[]) /\ ((e = (4 : Int)) /\ ((Eq (α := List Value)
  (bCells l) (bCells g)) /\ ((Plain (bCells l)) /\ True))))))))))))))))))))))))))) := by kernel_rfl
theorem z_bkO : bkO = ordL := by unfold bkO; rw [sealV_eq]
theorem eMade_ok : EntOk Try.prog eMade := entC_ok (by
  intro a rows p v news h hp
  split at h <;> simp only [Option.some.injEq, Prod.mk.injEq, reduceCtorEq] at h
  obtain ⟨rfl, rfl, rfl⟩ := h
  have := Md_con
  rw [sy_all, ← z_bkO] at this
  exact this)
theorem tRd_ok : ∀ x ∈ tRd, EntOk Try.prog x := all_cons eMade_ok (all_nil)
theorem bkA_eq : bkA = nC (fstL ++ cntL ++ stL) ++ [.slice (some ⟨2, 0, none⟩) 257 1] := by kernel_rfl
theorem bk_all : ∀ n : Fin 31, (fstL ++ cntL ++ stL).getD n.1 0 = fstN n.1 ∧ (fstL ++ cntL ++ stL).getD (31 + n.1) 0 = cntN n.1 ∧ (fstL ++ cntL ++ stL).getD (62 + n.1) 0 = stN n.1 := by decide +kernel
theorem bk_get (i : Nat) (h : i < 93) : bkA[i]? = some (.int .i64 (((fstL ++ cntL ++ stL).getD i 0 : Nat) : Int)) := by
  rw [bkA_eq, List.getElem?_append_left (by rw [nC_len]; exact h), nC_get (by exact h)]
theorem bk_cell (i : Nat) (h : i < 93) : cellI bkA i = (((fstL ++ cntL ++ stL).getD i 0 : Nat) : Int) := by unfold cellI; rw [bk_get i h]
theorem alB_app (R : List Bool) (b : Bool) : alB (R ++ [b]) = (alB R && b) := by unfold alB; simp
theorem o_len : bkO.length = 257 := by rw [z_bkO]; decide
theorem o_get (r : Nat) (h : r < 257) : (nC bkO)[r]? = some (.int .i64 ((ordN r : Nat) : Int)) := by rw [nC_get (by rw [o_len]; exact h), z_bkO]; rfl
theorem o_cell (r : Nat) (h : r < 257) : cellI (nC bkO) r = ((ordN r : Nat) : Int) := by unfold cellI; rw [o_get r h]
theorem bit_get : ∀ (l : List UInt8) (i : Nat) (h : i < 8 * l.length), (bitB l)[i]? = some (decide ((l.getD (i / 8) 0).toNat / 2 ^ (7 - i % 8) % 2 = 1))
  | [], i, h => by simp at h
  | c :: l, i, h => by
    have e : bitB (c :: l) = bl 8 c.toNat ++ bitB l := by unfold bitB; rw [List.flatMap_cons]
    rw [e]
    by_cases h8 : i < 8
    · rw [List.getElem?_append_left (by rw [bl_len]; exact h8), bl_get 8 _ _ h8, show i / 8 = 0 by omega, show i % 8 = i by omega]; rfl
    · rw [List.getElem?_append_right (by rw [bl_len]; omega), bl_len, bit_get l (i - 8) (by rw [List.length_cons] at h; omega), show i / 8 = (i - 8) / 8 + 1 by omega, show i % 8 = (i - 8) % 8 by omega]; rfl
theorem bitl (l : List UInt8) : (bitB l).length = 8 * l.length := by
  induction l with
  | nil => rfl
  | cons c l ih =>
    have e : bitB (c :: l) = bl 8 c.toNat ++ bitB l := by unfold bitB; rw [List.flatMap_cons]
    rw [e, List.length_append, bl_len, ih, List.length_cons]; omega
theorem al_val (R : List Bool) : alB R = true ↔ val R = 2 ^ R.length - 1 := by
  have hr : alB R = true ↔ R = List.replicate R.length true := by
    unfold alB
    rw [List.all_eq_true, List.eq_replicate_iff]
    simp
  rw [hr]
  constructor
  · intro h
    have := val_ones R.length
    rw [← h] at this; exact this
  · intro h
    have h1 := bl_val R
    have h2 := bl_val (List.replicate R.length true)
    rw [val_ones, List.length_replicate] at h2
    rw [h] at h1
    rw [← h1] at h2 ⊢
    rw [← h2]
    simp [bl_len]
theorem Rd_piece : PieceOk EtRd 1 (49, pRd, specRd) := by
  refine piece_loop tk.mixed (calls_envT tRd_ok) (lok_envT _ _) lm_none (n := 60) (by kernel_rfl) (fun _ => ((0, [], []) : Nat × List UInt8 × List Bool)) (fun l s => s.1 ≤ 8 * l.length ∧ decS ((bitB l).take s.1) ([], []) = some s.2 ∧ PI s.2.2 ∧ s.2.1.length ≤ s.1) (fun l s => 8 * l.length - s.1) (sl := slRd) (rl := fun l s => rlRd l s.2.1) (fun l hl => ⟨Nat.zero_le _, rfl, PI_nil, Nat.le_refl _⟩) (fun l s hl hi => ?_)
  refine (Rd_round l s _ _).mpr ?_
  obtain ⟨i, o, R⟩ := s
  obtain ⟨h1, h2, h3, h4⟩ := hi
  simp only at h1 h2 h3 h4
  have hl : l.length ≤ 1048576 := hl
  have w0 : IntKind.i64.wrap (8 * (l.length : Int)) = ((8 * l.length : Nat) : Int) := by rw [wr64_id (by unfold I64; omega)]; omega
  have w1 : IntKind.i64.wrap (Int.tdiv (i : Int) 8) = ((i / 8 : Nat) : Int) := by rw [Int.tdiv_eq_ediv_of_nonneg (by omega), wr64_id (by unfold I64; omega)]; omega
  have w2 : IntKind.i64.wrap (7 - Int.tmod (i : Int) 8) = ((7 - i % 8 : Nat) : Int) := by rw [Int.tmod_eq_emod_of_nonneg (by omega), wr64_id (by unfold I64; omega)]; omega
  have w3 : IntKind.i64.wrap ((R.length : Int) + 1) = ((R.length + 1 : Nat) : Int) := w_one _ (by have := h3.1; omega)
  have w4 : IntKind.i64.wrap ((i : Int) + 1) = ((i + 1 : Nat) : Int) := w_one _ (by omega)
  simp only [ofNat_eq, toNat_cast, Nat.zero_add, Nat.add_zero, Nat.mul_one, List.drop_zero, bCells_len, bCells_drop, bCells_take, bCells_app, bCells_one, bCells_plain, List.length_replicate, List.length_append, List.length_take, List.length_drop, List.take_length, and_true, true_and, and_self, decide_true, List.length_nil, List.length_cons, Nat.sub_zero, dB_mk, dB_ro, List.take_zero, E0, E1_eq, w0, w1, w2, w3, w4, Int.toNat_natCast, bCells_len, nC_plain, bCells_plain]
  refine br_if (fun h => ?_) (fun h => ?_)
  · have hi8 : i / 8 < l.length := by omega
    refine br_dec (by omega) ⟨bCells_at hi8, br_dec (by omega) ?_⟩
    have hcell : cellI (bCells l) (i / 8) = ((l[i / 8].toNat : Nat) : Int) := by rw [bCells_cell hi8]; simp [List.getD, List.getElem?_eq_getElem hi8]
    have hget := bit_get l i (by omega)
    have hgd : l.getD (i / 8) 0 = l[i / 8] := by simp [List.getD, List.getElem?_eq_getElem hi8]
    rw [hgd] at hget
    generalize l[i / 8] = c at *
    have hc := c.toNat_lt
    obtain ⟨p1, p2⟩ := h3
    obtain ⟨f1, f2, f3', f4⟩ := fst_in R.length (by omega)
    obtain ⟨c1, c2⟩ := cdN_all ⟨R.length, by omega⟩
    simp only at c1 c2
    obtain ⟨b1, b2, b3⟩ := bk_all ⟨R.length + 1, by omega⟩
    simp only at b1 b2 b3
    generalize hb : decide (c.toNat / 2 ^ (7 - i % 8) % 2 = 1) = b at hget
    have hbn : b.toNat = c.toNat / 2 ^ (7 - i % 8) % 2 := by
      rw [← hb]
      rcases Nat.mod_two_eq_zero_or_one (c.toNat / 2 ^ (7 - i % 8)) with h | h <;> rw [h] <;> decide
    have hv : val (R ++ [b]) = val R * 2 + b.toNat := by rw [val_app]; simp [val]
    have hvl := val_lt R
    have hvp := p2le R.length (by omega)
    have hb1 : b.toNat ≤ 1 := by cases b <;> decide
    have hdv : c.toNat / 2 ^ (7 - i % 8) ≤ c.toNat := Nat.div_le_self _ _
    have e4 : iand .i64 (IntKind.i64.wrap (ishr .u8 ((c.toNat : Nat) : Int) ((7 - i % 8 : Nat) : Int))) 1 = ((b.toNat : Nat) : Int) := by
      have e4 := iand_nat (a := c.toNat / 2 ^ (7 - i % 8)) (b := 1) (by omega) (by omega)
      rw [show ((1 : Nat) : Int) = 1 from rfl, Nat.and_one_is_mod] at e4
      rw [ishr8_nat (by omega), w_nat _ (by omega), e4, ← hbn]
    have e1 : ior .i64 (ishl .i64 ((val R : Nat) : Int) 1) ((b.toNat : Nat) : Int) = ((val (R ++ [b]) : Nat) : Int) := by
      have e3 := ishl_nat (a := val R) (k := 1) (by omega) (by omega)
      rw [show ((1 : Nat) : Int) = 1 from rfl] at e3
      rw [e3, or_cat 1 (by omega) (by omega), hv]
    have eq1 : (((b.toNat : Nat) : Int) == 1) = b := by cases b <;> rfl
    have hht : (bitB l).take (i + 1) = (bitB l).take i ++ [b] := by rw [List.take_add_one, hget]; rfl
    have hdec : decS ((bitB l).take (i + 1)) ([], []) = stepD (o, R) b := by rw [hht, decS_app, h2, Option.bind_some, decS_one]
    rw [hcell]
    simp only [e4, e1, eq1]
    simp (disch := omega) only [bk_get, bk_cell, b1, b2, b3]
    have hfl : fstN (R.length + 1) ≤ val (R ++ [b]) := by omega
    have w5 : IntKind.i64.wrap (((val (R ++ [b]) : Nat) : Int) - ((fstN (R.length + 1) : Nat) : Int)) = ((val (R ++ [b]) - fstN (R.length + 1) : Nat) : Int) := by rw [wr64_id (by unfold I64; omega)]; omega
    rw [w5]
    refine br_intro (fun hR => ?_) (fun hR => ?_)
    all_goals
      refine br_dec (by omega) ⟨trivial, br_dec (by omega) (br_dec (by omega) ⟨trivial, br_if (fun h5 => ?_) (fun h5 => ?_)⟩)⟩
      · have hr : stN (R.length + 1) + (val (R ++ [b]) - fstN (R.length + 1)) < 257 := by omega
        obtain ⟨_, _, o3, _⟩ := pos_in _ hr
        have hs : symO (val (R ++ [b])) (R.length + 1) = some (ordN (stN (R.length + 1) + (val (R ++ [b]) - fstN (R.length + 1)))) := by unfold symO; rw [if_pos (by omega)]
        refine br_dec (by omega) ⟨trivial, ?_⟩
        rw [w_add _ _ (by omega)]
        simp only [Int.toNat_natCast]
        generalize stN (R.length + 1) + (val (R ++ [b]) - fstN (R.length + 1)) = r at *
        simp (disch := omega) only [o_get, o_cell]
        refine br_dec (by omega) ⟨trivial, trivial, trivial, br_intro (fun h6 => ?_) (fun h6 => ?_)⟩
        · have h7 : ordN r = 256 := by have := eq_of_beq h6; omega
          have hst : stepD (o, R) b = none := by unfold stepD; simp only; rw [hs, h7]; rfl
          refine ⟨(o, R), ?_⟩
          have hsp : bitB l = (bitB l).take (i + 1) ++ (bitB l).drop (i + 1) := (List.take_append_drop _ _).symm
          unfold decO
          rw [hsp, decS_app, hdec, hst]; rfl
        · have h7 : ordN r ≠ 256 := by intro e; rw [e] at h6; simp at h6
          have hst : stepD (o, R) b = some (o ++ [UInt8.ofNat (ordN r)], []) := by unfold stepD; simp only; rw [hs]; simp only; rw [if_neg h7]
          rw [wru8_nat (by omega), bVal_nat (by omega)]
          refine br_dec (by omega) (br_dec (by omega) ⟨(i + 1, o ++ [UInt8.ofNat (ordN r)], []), ⟨by simp only; omega, by rw [hdec, hst], PI_nil, by simp only [List.length_append, List.length_singleton]; omega⟩, by simp only; omega, by simp, rfl, rfl, rfl, rfl, ?_⟩)
          simp only
          rw [← bCells_app]; rfl
      · have hs : symO (val (R ++ [b])) (R.length + 1) = none := by unfold symO; rw [if_neg (by omega)]
        have hst : stepD (o, R) b = some (o, R ++ [b]) := by unfold stepD; simp only; rw [hs]
        refine ⟨(i + 1, o, R ++ [b]), ⟨by simp only; omega, by rw [hdec, hst], PI_step ⟨p1, p2⟩ hs, by simp only; omega⟩, by simp only; omega, rfl, rfl, by simp, by rw [alB_app, hR]; cases b <;> rfl, rfl, rfl⟩
  · have : i = 8 * l.length := by omega
    subst this
    rw [List.take_of_length_le (by rw [bitl]; omega)] at h2
    exact ⟨(o, R), ⟨h2, h3.1⟩, rfl, rfl, rfl, rfl⟩
theorem Rd_con (l : List UInt8) (hl : l.length ≤ 1048576) : Con Try.prog 49 [slc 0 l.length] [bRo l] (.tuple #[.string (bs (decT l)), .int .i64 (decE l)]) [bRo l] := by
  refine con_vc (E := EtRd) tk.mixed (calls_envT tRd_ok) (lok_envT _ _) (M := mRd) (lm_one Rd_piece) (Rd_vc l _ _) ?_
  simp only [ofNat_eq, toNat_cast, Nat.zero_add, Nat.add_zero, Nat.mul_one, List.drop_zero, bCells_len, bCells_drop, bCells_take, bCells_app, bCells_one, bCells_plain, List.length_replicate, List.length_append, List.length_take, List.length_drop, List.take_length, and_true, true_and, and_self, decide_true, List.length_nil, List.length_cons, Nat.sub_zero, dB_mk, dB_ro, List.take_zero, E0, E1_eq, nC_plain, bCells_plain]
  refine ⟨l, hl, rfl, rfl, fun side => br_intro (fun _ => fun y hy => ?_) (fun _ => fun y hy => ?_)⟩
  · obtain ⟨y1, y2⟩ := hy
    obtain ⟨o, R⟩ := y
    simp only at y2
    have e0 : decR l = finD (o, R) := by unfold decR; rw [y1]; rfl
    simp only
    refine br_if (fun h => ?_) (fun h => ?_)
    · have e1 : decR l = none := by rw [e0]; unfold finD; rw [if_pos (Or.inl (by simp only; omega))]
      unfold decT decE; rw [e1]; exact ⟨rfl, rfl, by first | exact trivial | rfl⟩
    · have hb : (⟨⟨List.map bOf (bCells o)⟩⟩ : ByteArray) = bs o := by rw [bCells_bOf]; rfl
      rw [hb]
      refine br_intro (fun h6 => ?_) (fun h6 => br_dec (by omega) ?_)
      · have h7 : val R ≠ 2 ^ R.length - 1 := by intro e; rw [(al_val R).2 e] at h6; simp at h6
        have e1 : decR l = none := by rw [e0]; unfold finD; rw [if_pos (Or.inr h7)]
        unfold decT decE; rw [e1]; exact ⟨rfl, rfl, by first | exact trivial | rfl⟩
      · have h7 : val R = 2 ^ R.length - 1 := (al_val R).1 (by simpa using h6)
        have e1 : decR l = some o := by rw [e0]; unfold finD; rw [if_neg (fun hh => hh.elim (fun a => by simp only at a; omega) (fun a => a h7))]
        unfold decT decE; rw [e1]; exact ⟨bCells_all _, rfl, rfl, by first | exact trivial | rfl⟩
  · have e1 : decR l = none := by unfold decR; rw [hy]; rfl
    unfold decT decE; rw [e1]; exact ⟨rfl, rfl, by first | exact trivial | rfl⟩
end Go.Proofs.Ytellbmbklfbbfaa.md
