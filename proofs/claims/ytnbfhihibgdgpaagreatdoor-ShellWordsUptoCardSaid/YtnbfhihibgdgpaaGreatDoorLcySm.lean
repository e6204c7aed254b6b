/- A list of rows held against the same one. -/
import Derived.Test.YtnbfhihibgdgpaaGreatDoorSz9
import Derived.Test.YtnbfhihibgdgpaaGreatDoorRows
import Derived.Test.YtnbfhihibgdgpaaGreatDoorLsnA
set_option maxRecDepth 20000
set_option linter.unusedSimpArgs false
set_option linter.unusedVariables false
namespace Go.Proofs.YtnbfhihibgdgpaaGreatDoor.cy
open Go Go.Ev Go.Sy Go.RowKit Go.Proofs.YtnbfhihibgdgpaaGreatDoor.gl Go.Proofs.YtnbfhihibgdgpaaGreatDoor.tk Go.Proofs.YtnbfhihibgdgpaaGreatDoor.sn
def pSm : List Nat := [0, 1, 0, 1, 1]
def slSm (l : List Rw) (i : Nat) : List (Nat × Value) := [(0, slR 0 l.length), (1, slR 1 l.length), (5, .int .i64 (i : Nat))]
def rlSm (l : List Rw) : List (Nat × Row) := [(0, gRo enR l), (1, gRo enR l)]
def wsSm (l : List Rw) : List (Gate Unit) := [⟨.exit 0, fun _ => True, fun _ => [], fun _ => rlSm l, 2⟩, ⟨.ret, fun _ => False, fun _ => [(4, .bool false)], fun _ => rlSm l, 2⟩]
def specSm : Sy.Spec := specOf 2 2 26 (fun l : List Rw => l.length ≤ maxLen) (fun l => slSm l 0) (fun l => rlSm l) wsSm
def mSm := mOf [(31, pSm, specSm)]
noncomputable def eSm : EntM := entC 31 fun a r => match a, r with
  | [.slice (some ⟨0, 0, none⟩) n 3, .slice (some ⟨1, 0, none⟩) m 3], [r0, r1] => some (IsRw r0 n ∧ r1 = r0 ∧ m = n ∧ n ≤ maxLen, .bool true, [])
  | _, _ => none
theorem Sm_round (l : List Rw) (i : Nat) (Inv : Nat → Prop) (m : Nat → Nat) : mev E0 noM 60 31 (0 :: pSm) false (codeOf Tryz.prog 31 (0 :: pSm)) ⟨mkOv (slSm l i), 26, []⟩ none ⟨mkR (rlSm l), 2⟩ (roundK 2 2 26 Inv m (slSm l) (fun _ => rlSm l) (wsSm l) i) =
  (br (decide ((↑i : Int) < Int.ofNat (List.length l))) (br (decide ((0 : Int) <= (↑i : Int) /\ (↑i : Int) < (↑(List.length l) : Int))) ((Eq (α := Option Value) ((gC enR
  l)[0 + Int.toNat (↑i : Int) * 3]?) (some (Value.string (cellS (gC enR l) (0 + Int.toNat (↑i : Int) * 3))))) /\ ((Eq (α := Option Value) ((gC enR l)[0 + Int.toNat (↑i :
  Int) * 3 + 1]?) (some (Value.string (cellS (gC enR l) (0 + Int.toNat (↑i : Int) * 3 + 1))))) /\ ((Eq (α := Option Value) ((gC enR l)[0 + Int.toNat (↑i : Int) * 3 + 1 +
  1]?) (some (Value.int IntKind.i64 (cellI (gC enR l) (0 + Int.toNat (↑i : Int) * 3 + 1 + 1))))) /\ (br (decide ((0 : Int) <= (↑i : Int) /\ (↑i : Int) < (↑(List.length l) :
  Int))) ((Eq (α := Option Value) ((gC enR l)[0 + Int.toNat (↑i : Int) * 3]?) (some (Value.string (cellS (gC enR l) (0 + Int.toNat (↑i : Int) * 3))))) /\ ((Eq (α := Option
  Value) ((gC enR l)[0 + Int.toNat (↑i : Int) * 3 + 1]?) (some (Value.string (cellS (gC enR l) (0 + Int.toNat (↑i : Int) * 3 + 1))))) /\ ((Eq (α := Option Value) ((gC enR
  l)[0 + Int.toNat (↑i : Int) * 3 + 1 + 1]?) (some (Value.int IntKind.i64 (cellI (gC enR l) (0 + Int.toNat (↑i : Int) * 3 + 1 + 1))))) /\ ((Eq (α := Option Value) ((gC enR
  l)[0 + Int.toNat (↑i : Int) * 3]?) (some (Value.string (cellS (gC enR l) (0 + Int.toNat (↑i : Int) * 3))))) /\ ((Eq (α := Option Value) ((gC enR l)[0 + Int.toNat (↑i :
  Int) * 3 + 1]?) (some (Value.string (cellS (gC enR l) (0 + Int.toNat (↑i : Int) * 3 + 1))))) /\ ((Eq (α := Option Value) ((gC enR l)[0 + Int.toNat (↑i : Int) * 3 + 1 +
  1]?) (some (Value.int IntKind.i64 (cellI (gC enR l) (0 + Int.toNat (↑i : Int) * 3 + 1 + 1))))) /\ ((Value.agg (Array.mk [Value.string (cellS (gC enR l) (0 + Int.toNat (↑i
  : Int) * 3)), Value.string (cellS (gC enR l) (0 + Int.toNat (↑i : Int) * 3 + 1)), Value.int IntKind.i64 (cellI (gC enR l) (0 + Int.toNat (↑i : Int) * 3 + 1 + 1))]) =
  Value.agg (Array.mk [Value.string (cellS (gC enR l) (0 + Int.toNat (↑i : Int) * 3)), Value.string (cellS (gC enR l) (0 + Int.toNat (↑i : Int) * 3 + 1)), Value.int
  IntKind.i64 (cellI (gC enR l) (0 + Int.toNat (↑i : Int) * 3 + 1 + 1))])) /\ ((Eq (α := Option Value) ((gC enR l)[0 + Int.toNat (↑i : Int) * 3]?) (some (Value.string (cellS
  (gC enR l) (0 + Int.toNat (↑i : Int) * 3))))) /\ ((Eq (α := Option Value) ((gC enR l)[0 + Int.toNat (↑i : Int) * 3 + 1]?) (some (Value.string (cellS (gC enR l) (0 +
  Int.toNat (↑i : Int) * 3 + 1))))) /\ ((Eq (α := Option Value) ((gC enR l)[0 + Int.toNat (↑i : Int) * 3 + 1 + 1]?) (some (Value.int IntKind.i64 (cellI (gC enR l) (0 +
  Int.toNat (↑i : Int) * 3 + 1 + 1))))) /\ ((Value.agg (Array.mk [Value.string (cellS (gC enR l) (0 + Int.toNat (↑i : Int) * 3)), Value.string (cellS (gC enR l) (0 +
  Int.toNat (↑i : Int) * 3 + 1)), Value.int IntKind.i64 (cellI (gC enR l) (0 + Int.toNat (↑i : Int) * 3 + 1 + 1))]) = Value.agg (Array.mk [Value.string (cellS (gC enR l) (0
  + Int.toNat (↑i : Int) * 3)), Value.string (cellS (gC enR l) (0 + Int.toNat (↑i : Int) * 3 + 1)), Value.int IntKind.i64 (cellI (gC enR l) (0 + Int.toNat (↑i : Int) * 3 + 1
  + 1))])) /\ (br (!(cellS (gC enR l) (0 + Int.toNat (↑i : Int) * 3) == cellS (gC enR l) (0 + Int.toNat (↑i : Int) * 3) && (cellS (gC enR l) (0 + Int.toNat (↑i : Int) * 3 +
  1) == cellS (gC enR l) (0 + Int.toNat (↑i : Int) * 3 + 1) && true) && (cellI (gC enR l) (0 + Int.toNat (↑i : Int) * 3 + 1 + 1) == cellI (gC enR l) (0 + Int.toNat (↑i :
  Int) * 3 + 1 + 1) && true))) (∃ y : Unit, ((False) /\ ((false = false) /\ ((Eq (α := List Value) (gC enR l) (gC enR l)) /\ ((Plain (gC enR l)) /\ ((Eq (α := List Value)
  (gC enR l) (gC enR l)) /\ ((Plain (gC enR l)) /\ True))))))) (∃ j : Nat, ((Inv j) /\ ((m j < m i) /\ ((0 = 0) /\ ((List.length l = List.length l) /\ ((0 = 0) /\
  ((List.length l = List.length l) /\ (((↑j : Int) = IntKind.wrap IntKind.i64 ((↑i : Int) + (1 : Int))) /\ ((Eq (α := List Value) (gC enR l) (gC enR l)) /\ ((Plain (gC enR
  l)) /\ ((Eq (α := List Value) (gC enR l) (gC enR l)) /\ ((Plain (gC enR l)) /\ True)))))))))))))))))))))))) False)))) False) (∃ y : Unit, ((True) /\ ((Eq (α := List Value)
  (gC enR l) (gC enR l)) /\ ((Plain (gC enR l)) /\ ((Eq (α := List Value) (gC enR l) (gC enR l)) /\ ((Plain (gC enR l)) /\ True))))))) := by kernel_rfl
theorem Sm_vc (l : List Rw) : mcall E0 mSm 60 31 [slR 0 l.length, slR 1 l.length] ⟨mkR (nums 0 [gRo enR l, gRo enR l]), 2⟩ (retIs 2 (.bool true) [gRo enR l, gRo enR l]) =
  (br (Int.ofNat (List.length l) != Int.ofNat (List.length l)) ((true = false) /\ ((Eq (α := List Value) (gC enR l) (gC enR l)) /\ ((Plain (gC enR l)) /\ ((Eq (α := List
  Value) (gC enR l) (gC enR l)) /\ ((Plain (gC enR l)) /\ True))))) (∃ g : List Rw, ((List.length g <= 9223372036854775807) /\ ((0 = 0) /\ ((List.length g = List.length l)
  /\ ((0 = 0) /\ ((List.length g = List.length l) /\ (((0 : Int) = (0 : Int)) /\ ((Eq (α := List Value) (gC enR g) (gC enR l)) /\ ((Plain (gC enR g)) /\ ((Eq (α := List
  Value) (gC enR g) (gC enR l)) /\ ((Plain (gC enR g)) /\ (∀ (side : Bool), (br (side) (∀ (y : Unit), ((True) → ((true = true) /\ ((Eq (α := List Value) (gC enR l) (gC enR
  g)) /\ ((Plain (gC enR l)) /\ ((Eq (α := List Value) (gC enR l) (gC enR g)) /\ ((Plain (gC enR l)) /\ True))))))) (∀ (y : Unit), ((False) → ((true = false) /\ ((Eq (α :=
  List Value) (gC enR l) (gC enR g)) /\ ((Plain (gC enR l)) /\ ((Eq (α := List Value) (gC enR l) (gC enR g)) /\ ((Plain (gC enR l)) /\ True))))))))))))))))))))) := by kernel_rfl
theorem Sm_piece : PieceOk E0 2 (31, pSm, specSm) := by
  refine piece_loop mixed (calls_envN _) (lok_envN _) lm_none (n := 60) (by kernel_rfl) (fun _ => 0) (fun l i => i ≤ l.length) (fun l i => l.length - i) (sl := slSm) (rl := fun l _ => rlSm l) (fun l _ => Nat.zero_le _) (fun l i hg hi => ?_)
  refine (Sm_round l i _ _).mpr ?_
  have hm : maxLen = 9223372036854775807 := by unfold maxLen; rfl
  have hg : l.length ≤ maxLen := hg
  simp only [ofNat_eq, toNat_cast, Nat.zero_add, Nat.add_zero, Nat.mul_one, List.drop_zero, bCells_len, bCells_drop, bCells_take, bCells_app, bCells_one, bCells_plain, List.length_replicate, List.length_append, List.length_take, List.length_drop, List.take_length, and_true, true_and, and_self, decide_true, List.length_nil, List.length_cons, Nat.sub_zero, dB_mk, dB_ro, List.take_zero]
  refine br_if (fun h => br_dec (by omega) ?_) (fun h => ?_)
  · have h1 : i < l.length := by omega
    obtain ⟨c0, c1, c2, d0, d1, d2⟩ := rGet l i h1
    have w1 : IntKind.i64.wrap ((i : Int) + 1) = ((i + 1 : Nat) : Int) := by rw [wr64_id (by unfold I64; omega)]; omega
    simp only [c0, c1, c2, d0, d1, d2, w1, rPl, true_and, and_true]
    have hs : ∀ x : List UInt8, (bs x == bs x) = true := fun x => by
      have e : (bs x == bs x) = (x.toArray == x.toArray) := rfl
      rw [e]; simp
    refine br_dec (by omega) (br_nb (by rw [hs, hs]; simp) ⟨i + 1, by omega, by omega, rfl⟩)
  · exact ⟨(), rPl _⟩
theorem Sm_con (l : List Rw) (h : l.length ≤ maxLen) : Con Tryz.prog 31 [slR 0 l.length, slR 1 l.length] [gRo enR l, gRo enR l] (.bool true) [gRo enR l, gRo enR l] := by
  refine con_vc (E := E0) mixed (calls_envN _) (lok_envN _) (M := mSm) (lm_one Sm_piece) (Sm_vc l) ?_
  simp only [ofNat_eq, toNat_cast, Nat.zero_add, Nat.add_zero, Nat.mul_one, List.drop_zero, bCells_len, bCells_drop, bCells_take, bCells_app, bCells_one, bCells_plain, List.length_replicate, List.length_append, List.length_take, List.length_drop, List.take_length, and_true, true_and, and_self, decide_true, List.length_nil, List.length_cons, Nat.sub_zero, dB_mk, dB_ro, List.take_zero, rPl, true_and, and_true]
  exact br_nb (by simp) ⟨l, by unfold maxLen at h; omega, rfl, rfl, rfl, rfl, fun side => by
    cases side with
    | true => exact fun _ _ => rfl
    | false => exact fun _ hf => hf.elim⟩
theorem eSm_ok : EntOk Tryz.prog eSm := entC_ok (by
  intro a rows p v news h hp
  split at h <;> simp only [Option.some.injEq, Prod.mk.injEq, reduceCtorEq] at h
  obtain ⟨rfl, rfl, rfl⟩ := h
  obtain ⟨⟨l, rfl, rfl⟩, rfl, rfl, h3⟩ := hp
  exact Sm_con l h3)
end Go.Proofs.YtnbfhihibgdgpaaGreatDoor.cy
