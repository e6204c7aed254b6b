/- Are fields not too large? -/
import Derived.Test.YtkjppedfedaenaaGreatDoorSz9
import Derived.Test.YtkjppedfedaenaaGreatDoorRows
import Derived.Test.YtkjppedfedaenaaGreatDoorLlgt
set_option maxRecDepth 20000
set_option linter.unusedSimpArgs false
set_option linter.unusedVariables false
namespace Go.Proofs.YtkjppedfedaenaaGreatDoor.tk
open Go Go.Ev Go.Sy Go.RowKit Go.Proofs.YtkjppedfedaenaaGreatDoor.gl
def pLg : List Nat := [0, 1, 0, 1, 1]
structure StLg where
  n : Nat
  i : Nat
def slLg (l : List Fl) (s : StLg) : List (Nat × Value) := [(0, .slice (some ⟨0, 0, none⟩) l.length 2), (3, .int .i64 (s.n : Nat)), (4, .int .i64 (s.i : Nat))]
def wsLg (l : List Fl) : List (Gate Unit) := [⟨.exit 0, fun _ => lgN l ≤ 2000, fun _ => [], fun _ => [(0, gRo enF l)], 1⟩, ⟨.ret, fun _ => ¬ lgN l ≤ 2000, fun _ => [(2, .bool false)], fun _ => [(0, gRo enF l)], 1⟩]
def specLg : Sy.Spec := specOf 1 1 29 (fun l : List Fl => l.length ≤ 1048576 ∧ ShortF l) (fun l => slLg l ⟨0, 0⟩) (fun l => [(0, gRo enF l)]) wsLg
def mLg := mOf [(20, pLg, specLg)]
theorem Lg_round (l : List Fl) (s : StLg) (Inv : StLg → Prop) (m : StLg → Nat) : mev E0 noM 60 20 (0 :: pLg) false (codeOf Tryz.prog 20 (0 :: pLg)) ⟨mkOv (slLg l s), 29, []⟩ none ⟨mkR [(0, gRo enF l)], 1⟩ (roundK 1 1 29 Inv m (slLg l) (fun _ => [(0, gRo enF l)]) (wsLg l) s) =
  (br (decide ((↑s.2 : Int) < Int.ofNat (List.length l))) (br (decide ((0 : Int) <= (↑s.2 : Int) /\ (↑s.2 : Int) < (↑(List.length l) : Int))) ((Eq (α := Option Value) ((gC
  enF l)[0 + Int.toNat (↑s.2 : Int) * 2 + 0]?) (some (Value.string (cellS (gC enF l) (0 + Int.toNat (↑s.2 : Int) * 2 + 0))))) /\ (br (decide ((0 : Int) <= (↑s.2 : Int) /\
  (↑s.2 : Int) < (↑(List.length l) : Int))) ((Eq (α := Option Value) ((gC enF l)[0 + Int.toNat (↑s.2 : Int) * 2 + 1]?) (some (Value.string (cellS (gC enF l) (0 + Int.toNat
  (↑s.2 : Int) * 2 + 1))))) /\ ((Eq (α := Option Value) ((gC enF l)[0 + Int.toNat (↑s.2 : Int) * 2 + 0]?) (some (Value.string (cellS (gC enF l) (0 + Int.toNat (↑s.2 : Int) *
  2 + 0))))) /\ ((Value.string (cellS (gC enF l) (0 + Int.toNat (↑s.2 : Int) * 2 + 0)) = Value.string (cellS (gC enF l) (0 + Int.toNat (↑s.2 : Int) * 2 + 0))) /\ ((Eq (α :=
  Option Value) ((gC enF l)[0 + Int.toNat (↑s.2 : Int) * 2 + 1]?) (some (Value.string (cellS (gC enF l) (0 + Int.toNat (↑s.2 : Int) * 2 + 1))))) /\ ((Value.string (cellS (gC
  enF l) (0 + Int.toNat (↑s.2 : Int) * 2 + 1)) = Value.string (cellS (gC enF l) (0 + Int.toNat (↑s.2 : Int) * 2 + 1))) /\ (br (decide (IntKind.wrap IntKind.i64 (IntKind.wrap
  IntKind.i64 (IntKind.wrap IntKind.i64 ((↑s.1 : Int) + Int.ofNat (List.length (Array.toList (ByteArray.data (cellS (gC enF l) (0 + Int.toNat (↑s.2 : Int) * 2 + 0)))))) +
  Int.ofNat (List.length (Array.toList (ByteArray.data (cellS (gC enF l) (0 + Int.toNat (↑s.2 : Int) * 2 + 1)))))) + (1 : Int)) > (2000 : Int))) (∃ y : Unit, ((¬lgN l <=
  2000) /\ ((false = false) /\ ((Eq (α := List Value) (gC enF l) (gC enF l)) /\ ((Plain (gC enF l)) /\ True))))) (∃ j : StLg, ((Inv j) /\ ((m j < m s) /\ ((0 = 0) /\
  ((List.length l = List.length l) /\ (((↑j.1 : Int) = IntKind.wrap IntKind.i64 (IntKind.wrap IntKind.i64 (IntKind.wrap IntKind.i64 ((↑s.1 : Int) + Int.ofNat (List.length
  (Array.toList (ByteArray.data (cellS (gC enF l) (0 + Int.toNat (↑s.2 : Int) * 2 + 0)))))) + Int.ofNat (List.length (Array.toList (ByteArray.data (cellS (gC enF l) (0 +
  Int.toNat (↑s.2 : Int) * 2 + 1)))))) + (1 : Int))) /\ (((↑j.2 : Int) = IntKind.wrap IntKind.i64 ((↑s.2 : Int) + (1 : Int))) /\ ((Eq (α := List Value) (gC enF l) (gC enF
  l)) /\ ((Plain (gC enF l)) /\ True))))))))))))))) False)) False) (∃ y : Unit, ((lgN l <= 2000) /\ ((Eq (α := List Value) (gC enF l) (gC enF l)) /\ ((Plain (gC enF l)) /\
  True))))) := by kernel_rfl
theorem Lg_vc (l : List Fl) (b : Bool) : mcall E0 mLg 60 20 [.slice (some ⟨0, 0, none⟩) l.length 2] ⟨mkR (nums 0 [gRo enF l]), 1⟩ (retIs 1 (.bool b) [gRo enF l]) =
  (∃ g : List Fl, ((List.length g <= 1048576 /\ ShortF g) /\ ((0 = 0) /\ ((List.length g = List.length l) /\ (((0 : Int) = (0 : Int)) /\ (((0 : Int) = (0 : Int)) /\ ((Eq (α
  := List Value) (gC enF g) (gC enF l)) /\ ((Plain (gC enF g)) /\ (∀ (side : Bool), (br (side) (∀ (y : Unit), ((lgN g <= 2000) → ((b = true) /\ ((Eq (α := List Value) (gC
  enF l) (gC enF g)) /\ ((Plain (gC enF l)) /\ True))))) (∀ (y : Unit), ((¬lgN g <= 2000) → ((b = false) /\ ((Eq (α := List Value) (gC enF l) (gC enF g)) /\ ((Plain (gC enF
  l)) /\ True))))))))))))))) := by kernel_rfl
theorem Lg_piece : PieceOk E0 1 (20, pLg, specLg) := by
  refine piece_loop mixed (calls_envN _) (lok_envN _) lm_none (n := 60) (by kernel_rfl) (fun _ : List Fl => (⟨0, 0⟩ : StLg)) (fun l s => s.i ≤ l.length ∧ s.n ≤ 2000 ∧ s.n + lgN (l.drop s.i) = lgN l) (fun l s => l.length - s.i) (sl := slLg) (rl := fun l _ => [(0, gRo enF l)]) (fun l hg => ⟨Nat.zero_le _, Nat.zero_le _, by simp⟩) (fun l s hg hi => ?_)
  refine (Lg_round l s _ _).mpr ?_
  obtain ⟨n, i⟩ := s
  obtain ⟨h1, h2, h3⟩ := hi
  obtain ⟨g1, g2⟩ := hg
  simp only at h1 h2 h3
  simp only [ofNat_eq, toNat_cast, Nat.zero_add, Nat.add_zero, Nat.mul_one, List.drop_zero, bCells_len, bCells_drop, bCells_take, bCells_app, bCells_one, bCells_plain, List.length_replicate, List.length_append, List.length_take, List.length_drop, List.take_length, and_true, true_and, and_self, decide_true, List.length_nil, List.length_cons, Nat.sub_zero, dB_mk, dB_ro, List.take_zero, fPl]
  refine br_if (fun h => br_dec (by omega) ?_) (fun h => ⟨(), ?_⟩)
  rotate_left
  · have hz : l.drop i = [] := List.drop_eq_nil_of_le (by omega)
    rw [hz, lgN] at h3; omega
  have hi : i < l.length := by omega
  obtain ⟨c1, c2, c3, c4⟩ := fGet l i hi
  have hd := List.drop_eq_getElem_cons hi
  rw [hd, lgN] at h3
  unfold fOn at h3
  obtain ⟨s1, s2⟩ := g2 l[i] (List.getElem_mem hi)
  have w := i64_succ (show i < 9223372036854775807 by omega)
  simp only [c1, c2, c3, c4, bs_d, w, true_and]
  have w1 : IntKind.i64.wrap ((n : Int) + (l[i].n.length : Int)) = ((n + l[i].n.length : Nat) : Int) := by rw [wr64_id (by unfold I64; omega)]; omega
  have w2 : IntKind.i64.wrap (((n + l[i].n.length : Nat) : Int) + (l[i].v.length : Int)) = ((n + l[i].n.length + l[i].v.length : Nat) : Int) := by rw [wr64_id (by unfold I64; omega)]; omega
  have w3 : IntKind.i64.wrap (((n + l[i].n.length + l[i].v.length : Nat) : Int) + 1) = ((n + l[i].n.length + l[i].v.length + 1 : Nat) : Int) := by rw [wr64_id (by unfold I64; omega)]; omega
  simp only [w1, w2, w3]
  exact br_dec (by omega) (br_if (fun k => ⟨(), by omega⟩) (fun k => ⟨⟨_, i + 1⟩, ⟨by simp only; omega, by simp only; omega, by simp only; omega⟩, by simp only; omega, rfl, rfl⟩))
theorem Lg_con (l : List Fl) (hl : l.length ≤ 1048576) (hs : ShortF l) : Con Tryz.prog 20 [.slice (some ⟨0, 0, none⟩) l.length 2] [gRo enF l] (.bool (lgB l)) [gRo enF l] := by
  refine con_vc (E := E0) mixed (calls_envN _) (lok_envN _) (M := mLg) (lm_one Lg_piece) (Lg_vc l _) ?_
  simp only [ofNat_eq, toNat_cast, Nat.zero_add, Nat.add_zero, Nat.mul_one, List.drop_zero, bCells_len, bCells_drop, bCells_take, bCells_app, bCells_one, bCells_plain, List.length_replicate, List.length_append, List.length_take, List.length_drop, List.take_length, and_true, true_and, and_self, decide_true, List.length_nil, List.length_cons, Nat.sub_zero, dB_mk, dB_ro, List.take_zero, fPl]
  refine ⟨l, ⟨hl, hs⟩, rfl, rfl, br_side (fun _ h => ⟨?_, rfl⟩) (fun _ h => ⟨?_, rfl⟩)⟩
  · unfold lgB; exact decide_eq_true h
  · unfold lgB; exact decide_eq_false h
end Go.Proofs.YtkjppedfedaenaaGreatDoor.tk
