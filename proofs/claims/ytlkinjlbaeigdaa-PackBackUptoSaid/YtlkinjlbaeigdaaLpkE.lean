/- Rows that are not too large. -/
import Derived.Test.YtlkinjlbaeigdaaSz9
import Derived.Test.YtlkinjlbaeigdaaRows
import Derived.Test.YtlkinjlbaeigdaaLpkD
import Derived.Test.YtlkinjlbaeigdaaLbkS
import Derived.Test.YtlkinjlbaeigdaaLlawHu8
set_option maxRecDepth 20000
set_option linter.unusedSimpArgs false
set_option linter.unusedVariables false
namespace Go.Proofs.Ytlkinjlbaeigdaa.pk
open Go Go.Ev Go.Sy Go.RowKit Go.Proofs.Ytlkinjlbaeigdaa.gl Go.Proofs.Ytlkinjlbaeigdaa.tk Go.Proofs.Ytlkinjlbaeigdaa.hf Go.Proofs.Ytlkinjlbaeigdaa.s3 Go.Proofs.Ytlkinjlbaeigdaa.tb Go.Proofs.Ytlkinjlbaeigdaa.sh
def pLi : List Nat := [0, 1, 0, 1, 1]
def wsLi (l : List Wr) : List (Gate Unit) := [⟨.exit 0, fun _ => wSum l ≤ 3000, fun _ => [], fun _ => [(0, gRo enW l)], 1⟩, ⟨.ret, fun _ => 3000 < wSum l, fun _ => [(2, .bool false)], fun _ => [(0, gRo enW l)], 1⟩]
def wOk (l : List Wr) : Prop := l.length ≤ 1048576 ∧ ∀ w ∈ l, w.f.n.length ≤ 1048576 ∧ w.f.v.length ≤ 1048576
theorem nw_ex (f : List Wr → Nat → Nat) : ∃ g, g = f := ⟨f, rfl⟩
noncomputable def wsZ0 : List Wr → Nat → Nat := Classical.choose (nw_ex fun l i => wSum (l.take i))
noncomputable def slLi2 (l : List Wr) (i : Nat) : List (Nat × Value) := [(0, .slice (some ⟨0, 0, none⟩) l.length 3), (3, .int .i64 (wsZ0 l i : Nat)), (4, .int .i64 (i : Nat))]
noncomputable def specLi : Sy.Spec := specOf 1 1 31 wOk (fun l => slLi2 l 0) (fun l => [(0, gRo enW l)]) wsLi
noncomputable def mLi := mOf [(17, pLi, specLi)]
theorem rb_ex (f : Row → Bool) : ∃ g, g = f := ⟨f, rfl⟩
noncomputable def ltR : Row → Bool := Classical.choose (rb_ex fun r => decide (wSum (decW r.cells) ≤ 3000))
def IsWo (r : Row) (n : Nat) : Prop := ∃ l, r = gRo enW l ∧ n = l.length ∧ wOk l
noncomputable def eLi : EntM := entC 17 fun a r => match a, r with
  | [.slice (some ⟨0, 0, none⟩) n 3], [r0] => some (IsWo r0 n, .bool (ltR r0), [])
  | _, _ => none
noncomputable def eRunsP : EntM := entC 3 fun a r => match a, r with
  | [], [] => some (True, .bool true, [])
  | _, _ => none
theorem Li_round (l : List Wr) (i : Nat) (Inv : Nat → Prop) (m : Nat → Nat) : mev tk.E0 noM 60 17 (0 :: pLi) false (codeOf Try.prog 17 (0 :: pLi)) ⟨mkOv (slLi2 l i), 31, []⟩ none ⟨mkR [(0, gRo enW l)], 1⟩ (roundK 1 1 31 Inv m (slLi2 l) (fun _ => [(0, gRo enW l)]) (wsLi l) i) =
  (br (decide ((↑i : Int) < Int.ofNat (List.length l))) (br (decide ((0 : Int) <= (↑i : Int) /\ (↑i : Int) < (↑(List.length l) : Int))) ((Eq (α := Option Value) ((gC enW
  l)[0 + Int.toNat (↑i : Int) * 3 + 0 + 0]?) (some (Value.string (cellS (gC enW l) (0 + Int.toNat (↑i : Int) * 3 + 0 + 0))))) /\ (br (decide ((0 : Int) <= (↑i : Int) /\ (↑i
  : Int) < (↑(List.length l) : Int))) ((Eq (α := Option Value) ((gC enW l)[0 + Int.toNat (↑i : Int) * 3 + 0 + 1]?) (some (Value.string (cellS (gC enW l) (0 + Int.toNat (↑i :
  Int) * 3 + 0 + 1))))) /\ ((Eq (α := Option Value) ((gC enW l)[0 + Int.toNat (↑i : Int) * 3 + 0 + 0]?) (some (Value.string (cellS (gC enW l) (0 + Int.toNat (↑i : Int) * 3 +
  0 + 0))))) /\ ((Value.string (cellS (gC enW l) (0 + Int.toNat (↑i : Int) * 3 + 0 + 0)) = Value.string (cellS (gC enW l) (0 + Int.toNat (↑i : Int) * 3 + 0 + 0))) /\ ((Eq (α
  := Option Value) ((gC enW l)[0 + Int.toNat (↑i : Int) * 3 + 0 + 1]?) (some (Value.string (cellS (gC enW l) (0 + Int.toNat (↑i : Int) * 3 + 0 + 1))))) /\ ((Value.string
  (cellS (gC enW l) (0 + Int.toNat (↑i : Int) * 3 + 0 + 1)) = Value.string (cellS (gC enW l) (0 + Int.toNat (↑i : Int) * 3 + 0 + 1))) /\ (br (decide (IntKind.wrap
  IntKind.i64 (IntKind.wrap IntKind.i64 (IntKind.wrap IntKind.i64 ((↑(wsZ0 l i) : Int) + Int.ofNat (List.length (Array.toList (ByteArray.data (cellS (gC enW l) (0 +
  Int.toNat (↑i : Int) * 3 + 0 + 0)))))) + Int.ofNat (List.length (Array.toList (ByteArray.data (cellS (gC enW l) (0 + Int.toNat (↑i : Int) * 3 + 0 + 1)))))) + (32 : Int)) >
  (3000 : Int))) (∃ y : Unit, ((3000 < wSum l) /\ ((false = false) /\ ((Eq (α := List Value) (gC enW l) (gC enW l)) /\ ((Plain (gC enW l)) /\ True))))) (∃ j : Nat, ((Inv j)
  /\ ((m j < m i) /\ ((0 = 0) /\ ((List.length l = List.length l) /\ (((↑(wsZ0 l j) : Int) = IntKind.wrap IntKind.i64 (IntKind.wrap IntKind.i64 (IntKind.wrap IntKind.i64
  ((↑(wsZ0 l i) : Int) + Int.ofNat (List.length (Array.toList (ByteArray.data (cellS (gC enW l) (0 + Int.toNat (↑i : Int) * 3 + 0 + 0)))))) + Int.ofNat (List.length
  (Array.toList (ByteArray.data (cellS (gC enW l) (0 + Int.toNat (↑i : Int) * 3 + 0 + 1)))))) + (32 : Int))) /\ (((↑j : Int) = IntKind.wrap IntKind.i64 ((↑i : Int) + (1 :
  Int))) /\ ((Eq (α := List Value) (gC enW l) (gC enW l)) /\ ((Plain (gC enW l)) /\ True))))))))))))))) False)) False) (∃ y : Unit, ((wSum l <= 3000) /\ ((Eq (α := List
  Value) (gC enW l) (gC enW l)) /\ ((Plain (gC enW l)) /\ True))))) := by kernel_rfl
theorem Li_vc (l : List Wr) (v : Bool) : mcall tk.E0 mLi 60 17 [.slice (some ⟨0, 0, none⟩) l.length 3] ⟨mkR (nums 0 [gRo enW l]), 1⟩ (retIs 1 (.bool v) [gRo enW l]) =
  (∃ g : List Wr, ((wOk g) /\ ((0 = 0) /\ ((List.length g = List.length l) /\ (((↑(wsZ0 g 0) : Int) = (0 : Int)) /\ (((0 : Int) = (0 : Int)) /\ ((Eq (α := List Value) (gC
  enW g) (gC enW l)) /\ ((Plain (gC enW g)) /\ (∀ (side : Bool), (br (side) (∀ (y : Unit), ((wSum g <= 3000) → ((v = true) /\ ((Eq (α := List Value) (gC enW l) (gC enW g))
  /\ ((Plain (gC enW l)) /\ True))))) (∀ (y : Unit), ((3000 < wSum g) → ((v = false) /\ ((Eq (α := List Value) (gC enW l) (gC enW g)) /\ ((Plain (gC enW l)) /\
  True))))))))))))))) := by kernel_rfl
theorem z_wsZ0 : wsZ0 = fun l i => wSum (l.take i) := Classical.choose_spec (nw_ex _)
theorem z_ltR : ltR = fun r => decide (wSum (decW r.cells) ≤ 3000) := Classical.choose_spec (rb_ex _)
theorem wSum_take (l : List Wr) (i : Nat) (h : i < l.length) : wSum (l.take (i + 1)) = wSum (l.take i) + fbN l[i].f := by
  unfold wSum
  rw [List.take_add_one, List.getElem?_eq_getElem h, List.map_append, List.sum_append]; simp
theorem wSum_tle (l : List Wr) : ∀ i, wSum (l.take i) ≤ wSum l := by
  intro i
  have : wSum l = wSum (l.take i) + wSum (l.drop i) := by
    unfold wSum
    rw [← List.sum_append, ← List.map_append, List.take_append_drop]
  omega
theorem Li_piece : PieceOk tk.E0 1 (17, pLi, specLi) := by
  refine piece_loop tk.mixed (calls_envN _) (lok_envN _) lm_none (n := 60) (by kernel_rfl) (fun _ : List Wr => 0) (fun l i => i ≤ l.length ∧ wSum (l.take i) ≤ 3000) (fun l i => l.length - i) (sl := slLi2) (rl := fun l _ => [(0, gRo enW l)]) (fun l hg => ⟨Nat.zero_le _, by simp [wSum]⟩) (fun l i hg hi => ?_)
  refine (Li_round l i _ _).mpr ?_
  obtain ⟨g1, g2⟩ := hg
  obtain ⟨h1, h2⟩ := hi
  simp only [ofNat_eq, toNat_cast, Nat.zero_add, Nat.add_zero, Nat.mul_one, List.drop_zero, bCells_len, bCells_drop, bCells_take, bCells_app, bCells_one, bCells_plain, List.length_replicate, List.length_append, List.length_take, List.length_drop, List.take_length, and_true, true_and, and_self, decide_true, List.length_nil, List.length_cons, Nat.sub_zero, dB_mk, dB_ro, List.take_zero, z_wsZ0, wPl]
  refine br_if (fun h => br_dec (by omega) ?_) (fun h => ⟨(), ?_⟩)
  · have hi : i < l.length := by omega
    obtain ⟨c0, c1, c2, d0, d1, d2⟩ := wGet l i hi
    have hs := wSum_take l i hi
    have hle := wSum_tle l (i + 1)
    obtain ⟨b1, b2⟩ := g2 _ (List.getElem_mem hi)
    have fb : fbN l[i].f = l[i].f.n.length + l[i].f.v.length + 32 := rfl
    have e1 : (bs l[i].f.n).data.toList.length = l[i].f.n.length := rfl
    have e2 : (bs l[i].f.v).data.toList.length = l[i].f.v.length := rfl
    have w1 : IntKind.i64.wrap ((i : Int) + 1) = ((i + 1 : Nat) : Int) := by rw [wr64_id (by unfold I64; omega)]; omega
    have w2 : IntKind.i64.wrap (IntKind.i64.wrap (IntKind.i64.wrap (((wSum (List.take i l) : Nat) : Int) + (l[i].f.n.length : Int)) + (l[i].f.v.length : Int)) + 32) = ((wSum (List.take (i + 1) l) : Nat) : Int) := by
      rw [wr64_id (n := ((wSum (List.take i l) : Nat) : Int) + (l[i].f.n.length : Int)) (by unfold I64; omega), wr64_id (n := ((wSum (List.take i l) : Nat) : Int) + (l[i].f.n.length : Int) + (l[i].f.v.length : Int)) (by unfold I64; omega), wr64_id (by unfold I64; omega)]; omega
    simp only [d0, d1, e1, e2, w1, w2]
    refine ⟨c0, br_dec (by omega) ⟨c1, c0, c1, br_if (fun h3 => ⟨(), by omega⟩) (fun h3 => ⟨i + 1, ⟨by omega, by omega⟩, by omega, rfl, rfl⟩)⟩⟩
  · have : i = l.length := by omega
    rw [this, List.take_length] at h2; exact h2
theorem Li_con (l : List Wr) (h : wOk l) : Con Try.prog 17 [.slice (some ⟨0, 0, none⟩) l.length 3] [gRo enW l] (.bool (decide (wSum l ≤ 3000))) [gRo enW l] := by
  refine con_vc (E := tk.E0) tk.mixed (calls_envN _) (lok_envN _) (M := mLi) (lm_one Li_piece) (Li_vc l _) ?_
  simp only [ofNat_eq, toNat_cast, Nat.zero_add, Nat.add_zero, Nat.mul_one, List.drop_zero, bCells_len, bCells_drop, bCells_take, bCells_app, bCells_one, bCells_plain, List.length_replicate, List.length_append, List.length_take, List.length_drop, List.take_length, and_true, true_and, and_self, decide_true, List.length_nil, List.length_cons, Nat.sub_zero, dB_mk, dB_ro, List.take_zero, z_wsZ0, wPl]
  exact ⟨l, h, rfl, rfl, rfl, fun side => tk.br_iff.2 ⟨fun _ _ h => ⟨decide_eq_true h, rfl⟩, fun _ _ h => ⟨decide_eq_false (by omega), rfl⟩⟩⟩
theorem eLi_ok : EntOk Try.prog eLi := entC_ok (by
  intro a rows p v news h hp
  split at h <;> simp only [Option.some.injEq, Prod.mk.injEq, reduceCtorEq] at h
  obtain ⟨rfl, rfl, rfl⟩ := h
  obtain ⟨l, rfl, rfl, h⟩ := hp
  rw [z_ltR]
  simp only [gRo, decW_gC, List.append_nil]
  exact Li_con l h)
theorem eRunsP_ok : EntOk Try.prog eRunsP := entC_ok (by
  intro a rows p v news h hp
  split at h <;> simp only [Option.some.injEq, Prod.mk.injEq, reduceCtorEq] at h
  obtain ⟨rfl, rfl, rfl⟩ := h
  exact rn_law)
end Go.Proofs.Ytlkinjlbaeigdaa.pk
