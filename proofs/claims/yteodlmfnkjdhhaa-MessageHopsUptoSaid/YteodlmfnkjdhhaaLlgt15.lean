/- Are fields not too large? -/
import Derived.Test.YteodlmfnkjdhhaaSz9
import Derived.Test.YteodlmfnkjdhhaaRows
import Derived.Test.YteodlmfnkjdhhaaLlgt
set_option linter.unusedSimpArgs false
set_option linter.unusedVariables false
namespace Go.Proofs.Yteodlmfnkjdhhaa.tk
open Go Go.Ev Go.Sy Go.RowKit Go.Proofs.Yteodlmfnkjdhhaa.gl
def pL3 : List Nat := [0, 1, 0, 1, 1]
structure StL3 where
  n : Nat
  i : Nat
def slL3 (l : List Fl) (s : StL3) : List (Nat × Value) := [(0, .slice (some ⟨0, 0, none⟩) l.length 2), (3, .int .i64 (s.n : Nat)), (4, .int .i64 (s.i : Nat))]
def wsL3 (l : List Fl) : List (Gate Unit) := [⟨.exit 0, fun _ => lgN l ≤ 3000, fun _ => [], fun _ => [(0, gRo enF l)], 1⟩, ⟨.ret, fun _ => ¬ lgN l ≤ 3000, fun _ => [(2, .bool false)], fun _ => [(0, gRo enF l)], 1⟩]
def specL3 : Sy.Spec := specOf 1 1 29 (fun l : List Fl => l.length ≤ 1048576 ∧ ShortF l) (fun l => slL3 l ⟨0, 0⟩) (fun l => [(0, gRo enF l)]) wsL3
def mL3 := mOf [(13, pL3, specL3)]
def lg3B (l : List Fl) : Bool := decide (lgN l ≤ 3000)
def lg3R (r : Row) : Bool := lg3B (decF r.cells)
noncomputable def eL3 : EntM := entC 13 fun a r => match a, r with
  | [.slice (some ⟨0, 0, none⟩) n 2], [r0] => some (IsF r0 n ∧ n ≤ 1048576 ∧ ShR r0, .bool (lg3R r0), [])
  | _, _ => none
theorem L3_round (l : List Fl) (s : StL3) (Inv : StL3 → Prop) (m : StL3 → Nat) : mev E0 noM 60 13 (0 :: pL3) false (codeOf Try.prog 13 (0 :: pL3)) ⟨mkOv (slL3 l s), 29, []⟩ none ⟨mkR [(0, gRo enF l)], 1⟩ (roundK 1 1 29 Inv m (slL3 l) (fun _ => [(0, gRo enF l)]) (wsL3 l) s) =
  (br (decide ((↑s.2 : Int) < Int.ofNat (List.length l)))
   (br (decide ((0 : Int) ≤ (↑s.2 : Int) ∧ (↑s.2 : Int) < (↑(List.length l) : Int)))
    ((Eq (α := Option Value) ((gC enF l)[(0 : Nat) + Int.toNat (↑s.2 : Int) * (2 : Nat) + (0 : Nat)]?) (some (Value.string (cellS (gC enF l) ((0 : Nat) + Int.toNat (↑s.2 : Int) * (2 : Nat) + (0 : Nat)))))) ∧
    (br (decide ((0 : Int) ≤ (↑s.2 : Int) ∧ (↑s.2 : Int) < (↑(List.length l) : Int)))
     ((Eq (α := Option Value) ((gC enF l)[(0 : Nat) + Int.toNat (↑s.2 : Int) * (2 : Nat) + (1 : Nat)]?) (some (Value.string (cellS (gC enF l) ((0 : Nat) + Int.toNat (↑s.2 : Int) * (2 : Nat) + (1 : Nat)))))) ∧
     ((Eq (α := Option Value) ((gC enF l)[(0 : Nat) + Int.toNat (↑s.2 : Int) * (2 : Nat) + (0 : Nat)]?) (some (Value.string (cellS (gC enF l) ((0 : Nat) + Int.toNat (↑s.2 : Int) * (2 : Nat) + (0 : Nat)))))) ∧
     ((Value.string (cellS (gC enF l) ((0 : Nat) + Int.toNat (↑s.2 : Int) * (2 : Nat) + (0 : Nat))) = Value.string (cellS (gC enF l) ((0 : Nat) + Int.toNat (↑s.2 : Int) * (2 : Nat) + (0 : Nat)))) ∧
     ((Eq (α := Option Value) ((gC enF l)[(0 : Nat) + Int.toNat (↑s.2 : Int) * (2 : Nat) + (1 : Nat)]?) (some (Value.string (cellS (gC enF l) ((0 : Nat) + Int.toNat (↑s.2 : Int) * (2 : Nat) + (1 : Nat)))))) ∧
     ((Value.string (cellS (gC enF l) ((0 : Nat) + Int.toNat (↑s.2 : Int) * (2 : Nat) + (1 : Nat))) = Value.string (cellS (gC enF l) ((0 : Nat) + Int.toNat (↑s.2 : Int) * (2 : Nat) + (1 : Nat)))) ∧
     (br (decide (IntKind.wrap IntKind.i64 (IntKind.wrap IntKind.i64 (IntKind.wrap IntKind.i64 ((↑s.1 : Int) + Int.ofNat (List.length (Array.toList (ByteArray.data (cellS (gC enF l) ((0 : Nat) + Int.toNat (↑s.2 : Int) * (2 : Nat) + (0 : Nat))))))) + Int.ofNat (List.length (Array.toList (ByteArray.data (cellS (gC enF l) ((0 : Nat) + Int.toNat (↑s.2 : Int) * (2 : Nat) + (1 : Nat))))))) + (1 : Int)) > (3000 : Int)))
      (∃ y : Unit, ((¬lgN l ≤ (3000 : Nat)) ∧
      ((false = false) ∧
      ((Eq (α := List Value) (gC enF l) (gC enF l)) ∧
      ((Plain (gC enF l)) ∧
      True)))))
      (∃ j : StL3, ((Inv j) ∧
      ((m j < m s) ∧
      (((0 : Nat) = (0 : Nat)) ∧
      ((List.length l = List.length l) ∧
      (((↑j.1 : Int) = IntKind.wrap IntKind.i64 (IntKind.wrap IntKind.i64 (IntKind.wrap IntKind.i64 ((↑s.1 : Int) + Int.ofNat (List.length (Array.toList (ByteArray.data (cellS (gC enF l) ((0 : Nat) + Int.toNat (↑s.2 : Int) * (2 : Nat) + (0 : Nat))))))) + Int.ofNat (List.length (Array.toList (ByteArray.data (cellS (gC enF l) ((0 : Nat) + Int.toNat (↑s.2 : Int) * (2 : Nat) + (1 : Nat))))))) + (1 : Int))) ∧
      (((↑j.2 : Int) = IntKind.wrap IntKind.i64 ((↑s.2 : Int) + (1 : Int))) ∧
      ((Eq (α := List Value) (gC enF l) (gC enF l)) ∧
      ((Plain (gC enF l)) ∧
      True)))))))))))))))
     False))
    False)
   (∃ y : Unit, ((lgN l ≤ (3000 : Nat)) ∧
   ((Eq (α := List Value) (gC enF l) (gC enF l)) ∧
   ((Plain (gC enF l)) ∧
   True))))) := by kernel_rfl
theorem L3_vc (l : List Fl) (b : Bool) : mcall E0 mL3 60 13 [.slice (some ⟨0, 0, none⟩) l.length 2] ⟨mkR (nums 0 [gRo enF l]), 1⟩ (retIs 1 (.bool b) [gRo enF l]) =
  (∃ g : List Fl, ((List.length g ≤ (1048576 : Nat) ∧ ShortF g) ∧
  (((0 : Nat) = (0 : Nat)) ∧
  ((List.length g = List.length l) ∧
  (((0 : Int) = (0 : Int)) ∧
  (((0 : Int) = (0 : Int)) ∧
  ((Eq (α := List Value) (gC enF g) (gC enF l)) ∧
  ((Plain (gC enF g)) ∧
  (∀ (side : Bool), (br (side)
   (∀ (y : Unit), ((lgN g ≤ (3000 : Nat)) →
   ((b = true) ∧
   ((Eq (α := List Value) (gC enF l) (gC enF g)) ∧
   ((Plain (gC enF l)) ∧
   True)))))
   (∀ (y : Unit), ((¬lgN g ≤ (3000 : Nat)) →
   ((b = false) ∧
   ((Eq (α := List Value) (gC enF l) (gC enF g)) ∧
   ((Plain (gC enF l)) ∧
   True))))))))))))))) := by kernel_rfl
theorem L3_piece : PieceOk E0 1 (13, pL3, specL3) := by
  refine piece_loop mixed (calls_envN _) (lok_envN _) lm_none (n := 60) (by kernel_rfl) (fun _ : List Fl => (⟨0, 0⟩ : StL3)) (fun l s => s.i ≤ l.length ∧ s.n ≤ 3000 ∧ s.n + lgN (l.drop s.i) = lgN l) (fun l s => l.length - s.i) (sl := slL3) (rl := fun l _ => [(0, gRo enF l)]) (fun l hg => ⟨Nat.zero_le _, Nat.zero_le _, by simp⟩) (fun l s hg hi => ?_)
  refine (L3_round l s _ _).mpr ?_
  obtain ⟨n, i⟩ := s
  obtain ⟨h1, h2, h3⟩ := hi
  obtain ⟨g1, g2⟩ := hg
  simp only at h1 h2 h3
  simp only [ofNat_eq, toNat_cast, Nat.zero_add, Nat.add_zero, Nat.mul_one, List.drop_zero, bCells_len, bCells_drop, bCells_take, bCells_app, bCells_one, bCells_plain, List.length_replicate, List.length_append, List.length_take, List.length_drop, List.take_length, and_true, true_and, and_self, decide_true, List.length_nil, List.length_cons, Nat.sub_zero, dB_mk, dB_ro, List.take_zero, fPl]
  refine br_if (fun h => br_dec (by omega) ?_) (fun h => ⟨(), ?_⟩)
  rotate_left
  · have hz : l.drop i = [] := List.drop_eq_nil_of_le (by omega)
    rw [hz, lgN] at h3; omega
  have hi : i < l.length := by omega
  obtain ⟨c1, c2, c3, c4⟩ := fGet l i hi
  have hd := List.drop_eq_getElem_cons hi
  rw [hd, lgN] at h3
  unfold fOn at h3
  obtain ⟨s1, s2⟩ := g2 l[i] (List.getElem_mem hi)
  have w := i64_succ (show i < 9223372036854775807 by omega)
  simp only [c1, c2, c3, c4, bs_d, w, true_and]
  have w1 : IntKind.i64.wrap ((n : Int) + (l[i].n.length : Int)) = ((n + l[i].n.length : Nat) : Int) := by rw [wr64_id (by unfold I64; omega)]; omega
  have w2 : IntKind.i64.wrap (((n + l[i].n.length : Nat) : Int) + (l[i].v.length : Int)) = ((n + l[i].n.length + l[i].v.length : Nat) : Int) := by rw [wr64_id (by unfold I64; omega)]; omega
  have w3 : IntKind.i64.wrap (((n + l[i].n.length + l[i].v.length : Nat) : Int) + 1) = ((n + l[i].n.length + l[i].v.length + 1 : Nat) : Int) := by rw [wr64_id (by unfold I64; omega)]; omega
  simp only [w1, w2, w3]
  exact br_dec (by omega) (br_if (fun k => ⟨(), by omega⟩) (fun k => ⟨⟨_, i + 1⟩, ⟨by simp only; omega, by simp only; omega, by simp only; omega⟩, by simp only; omega, rfl, rfl⟩))
theorem L3_con (l : List Fl) (hl : l.length ≤ 1048576) (hs : ShortF l) : Con Try.prog 13 [.slice (some ⟨0, 0, none⟩) l.length 2] [gRo enF l] (.bool (lg3B l)) [gRo enF l] := by
  refine con_vc (E := E0) mixed (calls_envN _) (lok_envN _) (M := mL3) (lm_one L3_piece) (L3_vc l _) ?_
  simp only [ofNat_eq, toNat_cast, Nat.zero_add, Nat.add_zero, Nat.mul_one, List.drop_zero, bCells_len, bCells_drop, bCells_take, bCells_app, bCells_one, bCells_plain, List.length_replicate, List.length_append, List.length_take, List.length_drop, List.take_length, and_true, true_and, and_self, decide_true, List.length_nil, List.length_cons, Nat.sub_zero, dB_mk, dB_ro, List.take_zero, fPl]
  refine ⟨l, ⟨hl, hs⟩, rfl, rfl, br_side (fun _ h => ⟨?_, rfl⟩) (fun _ h => ⟨?_, rfl⟩)⟩
  · unfold lg3B; exact decide_eq_true h
  · unfold lg3B; exact decide_eq_false h
theorem n_lg3 (l : List Fl) (b : Bool) (o : Ob) : lg3R ⟨gC enF l, b, o⟩ = lg3B l := by unfold lg3R; simp only; rw [decF_gC]
theorem eL3_ok : EntOk Try.prog eL3 := entC_ok (by
  intro a rows p v news h hp
  split at h <;> simp only [Option.some.injEq, Prod.mk.injEq, reduceCtorEq] at h
  obtain ⟨rfl, rfl, rfl⟩ := h
  obtain ⟨⟨l, rfl, rfl⟩, h1, h2⟩ := hp
  simp only [ShR, lg3R, show ∀ l : List Fl, decF (gRo enF l).cells = l from fun l => decF_gC l, List.append_nil] at h2 ⊢
  exact L3_con l h1 h2)
end Go.Proofs.Yteodlmfnkjdhhaa.tk
