/- Talks: what a field says of them, as the ones who answer read it. -/
import Derived.Test.YtkjppedfedaenaaGreatDoorSz9
import Derived.Test.YtkjppedfedaenaaGreatDoorRows
import Derived.Test.YtkjppedfedaenaaGreatDoorLlgtK
import Derived.Test.YtkjppedfedaenaaGreatDoorLbrt
import Derived.Test.YtkjppedfedaenaaGreatDoorLbsx
set_option maxRecDepth 20000
set_option linter.unusedSimpArgs false
set_option linter.unusedVariables false
namespace Go.Proofs.YtkjppedfedaenaaGreatDoor.tk
open Go Go.Ev Go.Sy Go.RowKit Go.Proofs.YtkjppedfedaenaaGreatDoor.gl
structure TkY where
  p : Int
  l : Int
  s : Int
  b : ByteArray
  e : Bool
  r : Bool
  c : Int
  a : Int
def tkCy (y : TkY) (r n : Nat) : List Value := [.int .i64 y.p, .int .i64 y.l, .int .i64 y.s, .slice (some ⟨r, 0, none⟩) n 2, .string y.b, .bool y.e, .bool y.r, .int .i64 y.c, .int .i64 y.a]
def fstF (nm : List UInt8) : List Fl → Option (List UInt8)
  | [] => none
  | f :: l => if f.n = nm then some f.v else fstF nm l
def fsL (nm : List UInt8) (l : List Fl) : List UInt8 := (fstF nm l).getD []
def fsV (r : Row) (s : ByteArray) : ByteArray := bs (fsL (L s) (decF r.cells))
def fsB (r : Row) (s : ByteArray) : Bool := (fstF (L s) (decF r.cells)).isSome
noncomputable def eLgt : EntM := entC 20 fun a r => match a, r with
  | [.slice (some ⟨0, 0, none⟩) n 2], [r0] => some (IsF r0 n ∧ n ≤ 1048576 ∧ ShR r0, .bool (lgR r0), [])
  | _, _ => none
noncomputable def eVa : EntM := entC 30 fun a r => match a, r with
  | [.agg ⟨[.int .i64 p, .int .i64 l, .int .i64 s, .slice (some ⟨0, 0, none⟩) n 2, .string b, .bool e, .bool rr, .int .i64 c, .int .i64 aa]⟩, .string nm], [r0] => some (IsF r0 n ∧ n ≤ maxLen, .tuple #[.string (fsV r0 nm), .bool (fsB r0 nm)], [])
  | _, _ => none
noncomputable def eVr : EntM := entC 43 fun a r => match a, r with
  | [.agg ⟨[.int .i64 p, .int .i64 l, .int .i64 s, .slice (some ⟨0, 0, none⟩) n 2, .string b, .bool e, .bool rr, .int .i64 c, .int .i64 aa]⟩, .string nm], [r0] => some (IsF r0 n ∧ n ≤ maxLen, .string (fsV r0 nm), [])
  | _, _ => none
def pVa : List Nat := [0, 1, 0, 1]
structure GVa where
  l : List Fl
  nm : List UInt8
  y : TkY
def slVa (g : GVa) (i : Nat) : List (Nat × Value) := [(1, .string (bs g.nm)), (9, .slice (some ⟨0, 0, none⟩) g.l.length 2), (10, .int .i64 (g.l.length : Nat)), (11, .int .i64 (i : Nat))]
def rlVa (g : GVa) : List (Nat × Row) := [(0, gRo enF g.l)]
def wsVa (g : GVa) : List (Gate Unit) := [⟨.exit 0, fun _ => fstF g.nm g.l = none, fun _ => [], fun _ => rlVa g, 1⟩, ⟨.ret, fun _ => (fstF g.nm g.l).isSome = true, fun _ => [(4, .string (bs (fsL g.nm g.l))), (5, .bool true)], fun _ => rlVa g, 1⟩]
def specVa : Sy.Spec := specOf 1 2 22 (fun g : GVa => g.l.length ≤ maxLen) (fun g => slVa g 0) rlVa wsVa
def mVa := mOf [(30, pVa, specVa)]
def slVr (g : GVa) (i : Nat) : List (Nat × Value) := [(1, .string (bs g.nm)), (2, .pointer (some ⟨1, 0, none⟩)), (5, .int .i64 (i : Nat))]
def rlVr (g : GVa) : List (Nat × Row) := [(0, gRo enF g.l), (1, ⟨tkCy g.y 0 g.l.length, false, .cells false⟩)]
def wsVr (g : GVa) : List (Gate Unit) := [⟨.exit 0, fun _ => fstF g.nm g.l = none, fun _ => [], fun _ => rlVa g, 1⟩, ⟨.ret, fun _ => (fstF g.nm g.l).isSome = true, fun _ => [(4, .string (bs (fsL g.nm g.l)))], fun _ => rlVa g, 1⟩]
def specVr : Sy.Spec := specOf 1 2 27 (fun g : GVa => g.l.length ≤ maxLen) (fun g => slVr g 0) rlVr wsVr
def mVr := mOf [(43, pVa, specVr)]
theorem Va_round (g : GVa) (i : Nat) (Inv : Nat → Prop) (m : Nat → Nat) : mev E0 noM 60 30 (0 :: pVa) false (codeOf Tryz.prog 30 (0 :: pVa)) ⟨mkOv (slVa g i), 22, []⟩ none ⟨mkR (rlVa g), 2⟩ (roundK 1 2 22 Inv m (slVa g) (fun _ => rlVa g) (wsVa g) i) =
  (br (decide ((↑i : Int) < (↑(List.length g.1) : Int))) (br (decide ((0 : Int) <= (↑i : Int) /\ (↑i : Int) < (↑(List.length g.1) : Int))) ((Eq (α := Option Value) ((gC enF
  g.1)[0 + Int.toNat (↑i : Int) * 2]?) (some (Value.string (cellS (gC enF g.1) (0 + Int.toNat (↑i : Int) * 2))))) /\ ((Eq (α := Option Value) ((gC enF g.1)[0 + Int.toNat (↑i
  : Int) * 2 + 1]?) (some (Value.string (cellS (gC enF g.1) (0 + Int.toNat (↑i : Int) * 2 + 1))))) /\ (br (strEq (cellS (gC enF g.1) (0 + Int.toNat (↑i : Int) * 2)) (bs
  g.2)) (∃ y : Unit, ((Option.isSome (fstF (GVa.nm g) (GVa.l g)) = true) /\ ((bs (fsL g.2 g.1) = cellS (gC enF g.1) (0 + Int.toNat (↑i : Int) * 2 + 1)) /\ ((true = true) /\
  ((Eq (α := List Value) (gC enF g.1) (gC enF g.1)) /\ ((Plain (gC enF g.1)) /\ True)))))) (∃ j : Nat, ((Inv j) /\ ((m j < m i) /\ ((bs g.2 = bs g.2) /\ ((0 = 0) /\
  ((List.length g.1 = List.length g.1) /\ (((↑(List.length g.1) : Int) = (↑(List.length g.1) : Int)) /\ (((↑j : Int) = IntKind.wrap IntKind.i64 ((↑i : Int) + (1 : Int))) /\
  ((Eq (α := List Value) (gC enF g.1) (gC enF g.1)) /\ ((Plain (gC enF g.1)) /\ True))))))))))))) False) (∃ y : Unit, ((Eq (α := Option (List UInt8)) (fstF g.2 g.1) (none))
  /\ ((Eq (α := List Value) (gC enF g.1) (gC enF g.1)) /\ ((Plain (gC enF g.1)) /\ True))))) := by kernel_rfl
theorem Va_vc (y : TkY) (l : List Fl) (nm : List UInt8) (v : ByteArray) (b : Bool) : mcall E0 mVa 60 30 [.agg ⟨tkCy y 0 l.length⟩, .string (bs nm)] ⟨mkR (nums 0 [gRo enF l]), 1⟩ (retIs 1 (.tuple #[.string v, .bool b]) [gRo enF l]) =
  (∃ g : GVa, ((List.length g.1 <= 9223372036854775807) /\ ((bs g.2 = bs nm) /\ ((0 = 0) /\ ((List.length g.1 = List.length l) /\ (((↑(List.length g.1) : Int) = Int.ofNat
  (List.length l)) /\ (((0 : Int) = (0 : Int)) /\ ((Eq (α := List Value) (gC enF g.1) (gC enF l)) /\ ((Plain (gC enF g.1)) /\ (∀ (side : Bool), (br (side) (∀ (y2 : Unit),
  ((fstF (GVa.nm g) (GVa.l g) = none) → ((v = ByteArray.mk #[]) /\ ((b = false) /\ ((Eq (α := List Value) (gC enF l) (gC enF g.1)) /\ ((Plain (gC enF l)) /\ True)))))) (∀
  (y2 : Unit), ((Option.isSome (fstF (GVa.nm g) (GVa.l g)) = true) → ((v = bs (fsL g.2 g.1)) /\ ((b = true) /\ ((Eq (α := List Value) (gC enF l) (gC enF g.1)) /\ ((Plain (gC
  enF l)) /\ True))))))))))))))))) := by kernel_rfl
theorem Vr_round (g : GVa) (i : Nat) (Inv : Nat → Prop) (m : Nat → Nat) : mev E0 noM 60 43 (0 :: pVa) false (codeOf Tryz.prog 43 (0 :: pVa)) ⟨mkOv (slVr g i), 27, []⟩ none ⟨mkR (rlVr g), 2⟩ (roundK 1 2 27 Inv m (slVr g) (fun _ => rlVr g) (wsVr g) i) =
  (br (decide ((↑i : Int) < Int.ofNat (List.length g.1))) (br (decide ((0 : Int) <= (↑i : Int) /\ (↑i : Int) < (↑(List.length g.1) : Int))) ((Eq (α := Option Value) ((gC enF
  g.1)[0 + Int.toNat (↑i : Int) * 2 + 0]?) (some (Value.string (cellS (gC enF g.1) (0 + Int.toNat (↑i : Int) * 2 + 0))))) /\ (br (strEq (cellS (gC enF g.1) (0 + Int.toNat
  (↑i : Int) * 2 + 0)) (bs g.2)) (br (decide ((0 : Int) <= (↑i : Int) /\ (↑i : Int) < (↑(List.length g.1) : Int))) ((Eq (α := Option Value) ((gC enF g.1)[0 + Int.toNat (↑i :
  Int) * 2 + 1]?) (some (Value.string (cellS (gC enF g.1) (0 + Int.toNat (↑i : Int) * 2 + 1))))) /\ (∃ y : Unit, ((Option.isSome (fstF (GVa.nm g) (GVa.l g)) = true) /\ ((bs
  (fsL g.2 g.1) = cellS (gC enF g.1) (0 + Int.toNat (↑i : Int) * 2 + 1)) /\ ((Eq (α := List Value) (gC enF g.1) (gC enF g.1)) /\ ((Plain (gC enF g.1)) /\ True)))))) False)
  (∃ j : Nat, ((Inv j) /\ ((m j < m i) /\ ((bs g.2 = bs g.2) /\ ((0 = 0) /\ (((↑j : Int) = IntKind.wrap IntKind.i64 ((↑i : Int) + (1 : Int))) /\ ((Eq (α := List Value) (gC
  enF g.1) (gC enF g.1)) /\ ((Plain (gC enF g.1)) /\ ((g.3.1 = g.3.1) /\ ((g.3.2 = g.3.2) /\ ((g.3.3 = g.3.3) /\ ((0 = 0) /\ ((List.length g.1 = List.length g.1) /\ ((g.3.4
  = g.3.4) /\ ((g.3.5 = g.3.5) /\ ((g.3.6 = g.3.6) /\ ((g.3.7 = g.3.7) /\ ((g.3.8 = g.3.8) /\ True)))))))))))))))))))) False) (∃ y : Unit, ((Eq (α := Option (List UInt8))
  (fstF g.2 g.1) (none)) /\ ((Eq (α := List Value) (gC enF g.1) (gC enF g.1)) /\ ((Plain (gC enF g.1)) /\ True))))) := by kernel_rfl
theorem Vr_vc (y : TkY) (l : List Fl) (nm : List UInt8) (v : ByteArray) : mcall E0 mVr 60 43 [.agg ⟨tkCy y 0 l.length⟩, .string (bs nm)] ⟨mkR (nums 0 [gRo enF l]), 1⟩ (retIs 1 (.string v) [gRo enF l]) =
  (∃ g : GVa, ((List.length g.1 <= 9223372036854775807) /\ ((bs g.2 = bs nm) /\ ((0 = 0) /\ (((0 : Int) = (0 : Int)) /\ ((Eq (α := List Value) (gC enF g.1) (gC enF l)) /\
  ((Plain (gC enF g.1)) /\ ((g.3.1 = y.1) /\ ((g.3.2 = y.2) /\ ((g.3.3 = y.3) /\ ((0 = 0) /\ ((List.length g.1 = List.length l) /\ ((g.3.4 = y.4) /\ ((g.3.5 = y.5) /\
  ((g.3.6 = y.6) /\ ((g.3.7 = y.7) /\ ((g.3.8 = y.8) /\ (∀ (side : Bool), (br (side) (∀ (y2 : Unit), ((fstF (GVa.nm g) (GVa.l g) = none) → ((v = ByteArray.mk #[]) /\ ((Eq (α
  := List Value) (gC enF l) (gC enF g.1)) /\ ((Plain (gC enF l)) /\ True))))) (∀ (y2 : Unit), ((Option.isSome (fstF (GVa.nm g) (GVa.l g)) = true) → ((v = bs (fsL g.2 g.1))
  /\ ((Eq (α := List Value) (gC enF l) (gC enF g.1)) /\ ((Plain (gC enF l)) /\ True)))))))))))))))))))))))) := by kernel_rfl
theorem fstF_cons (nm : List UInt8) (f : Fl) (l : List Fl) : fstF nm (f :: l) = if f.n = nm then some f.v else fstF nm l := by rw [fstF]
theorem fstF_drop (nm : List UInt8) (l : List Fl) (i : Nat) (h : i < l.length) : fstF nm (l.drop i) = if l[i].n = nm then some l[i].v else fstF nm (l.drop (i + 1)) := by
  rw [List.drop_eq_getElem_cons h, fstF_cons]
theorem n_fsV (l : List Fl) (b : Bool) (o : Ob) (s : List UInt8) : fsV ⟨gC enF l, b, o⟩ (bs s) = bs (fsL s l) := by unfold fsV; simp only; rw [decF_gC, L_bs]
theorem n_fsB (l : List Fl) (b : Bool) (o : Ob) (s : List UInt8) : fsB ⟨gC enF l, b, o⟩ (bs s) = (fstF s l).isSome := by unfold fsB; simp only; rw [decF_gC, L_bs]
theorem Va_piece : PieceOk E0 1 (30, pVa, specVa) := by
  refine piece_loop mixed (calls_envN _) (lok_envN _) lm_none (n := 60) (by kernel_rfl) (fun _ : GVa => (0 : Nat)) (fun g i => i ≤ g.l.length ∧ fstF g.nm g.l = fstF g.nm (g.l.drop i)) (fun g i => g.l.length - i) (sl := slVa) (rl := fun g _ => rlVa g) (fun g hg => ⟨Nat.zero_le _, rfl⟩) (fun g i hg hi => ?_)
  refine (Va_round g i _ _).mpr ?_
  obtain ⟨h1, h2⟩ := hi
  have hm : maxLen = 9223372036854775807 := by unfold maxLen; rfl
  have hg : g.l.length ≤ maxLen := hg
  simp only [ofNat_eq, toNat_cast, Nat.zero_add, Nat.add_zero, Nat.mul_one, List.drop_zero, bCells_len, bCells_drop, bCells_take, bCells_app, bCells_one, bCells_plain, List.length_replicate, List.length_append, List.length_take, List.length_drop, List.take_length, and_true, true_and, and_self, decide_true, List.length_nil, List.length_cons, Nat.sub_zero, dB_mk, dB_ro, List.take_zero, fPl, fLen, fTake]
  refine br_if (fun h => br_dec (by omega) ?_) (fun h => ⟨(), ?_⟩)
  rotate_left
  · rw [h2, List.drop_eq_nil_of_le (by omega)]; rfl
  have hi : i < g.l.length := by omega
  obtain ⟨c1, c2, c3, c4⟩ := fGet g.l i hi
  have w := i64_succ (show i < 9223372036854775807 by omega)
  have hd := fstF_drop g.nm g.l i hi
  simp only [c1, c2, c3, c4, w, true_and, strEq_bs]
  refine br_if (fun k => ⟨(), ?_, ?_⟩) (fun k => ⟨i + 1, ⟨by omega, ?_⟩, by omega, rfl⟩)
  · rw [h2, hd, if_pos k]; rfl
  · unfold fsL; rw [h2, hd, if_pos k]; rfl
  · rw [h2, hd, if_neg k]
theorem Va_con (y : TkY) (l : List Fl) (nm : List UInt8) (hl : l.length ≤ maxLen) : Con Tryz.prog 30 [.agg ⟨tkCy y 0 l.length⟩, .string (bs nm)] [gRo enF l] (.tuple #[.string (bs (fsL nm l)), .bool (fstF nm l).isSome]) [gRo enF l] := by
  refine con_vc (E := E0) mixed (calls_envN _) (lok_envN _) (M := mVa) (lm_one Va_piece) (Va_vc y l nm _ _) ?_
  simp only [ofNat_eq, toNat_cast, Nat.zero_add, Nat.add_zero, Nat.mul_one, List.drop_zero, bCells_len, bCells_drop, bCells_take, bCells_app, bCells_one, bCells_plain, List.length_replicate, List.length_append, List.length_take, List.length_drop, List.take_length, and_true, true_and, and_self, decide_true, List.length_nil, List.length_cons, Nat.sub_zero, dB_mk, dB_ro, List.take_zero, fPl, fLen, fTake]
  have hm : maxLen = 9223372036854775807 := by unfold maxLen; rfl
  refine ⟨⟨l, nm, y⟩, by simp only; omega, rfl, rfl, rfl, rfl, br_side (fun _ h => ?_) (fun _ h => ?_)⟩
  · simp only at h
    exact ⟨by unfold fsL; rw [h]; rfl, by rw [h]; rfl, rfl⟩
  · exact ⟨rfl, h, rfl⟩
theorem Vr_piece : PieceOk E0 1 (43, pVa, specVr) := by
  refine piece_loop mixed (calls_envN _) (lok_envN _) lm_none (n := 60) (by kernel_rfl) (fun _ : GVa => (0 : Nat)) (fun g i => i ≤ g.l.length ∧ fstF g.nm g.l = fstF g.nm (g.l.drop i)) (fun g i => g.l.length - i) (sl := slVr) (rl := fun g _ => rlVr g) (fun g hg => ⟨Nat.zero_le _, rfl⟩) (fun g i hg hi => ?_)
  refine (Vr_round g i _ _).mpr ?_
  obtain ⟨h1, h2⟩ := hi
  have hm : maxLen = 9223372036854775807 := by unfold maxLen; rfl
  have hg : g.l.length ≤ maxLen := hg
  simp only [ofNat_eq, toNat_cast, Nat.zero_add, Nat.add_zero, Nat.mul_one, List.drop_zero, bCells_len, bCells_drop, bCells_take, bCells_app, bCells_one, bCells_plain, List.length_replicate, List.length_append, List.length_take, List.length_drop, List.take_length, and_true, true_and, and_self, decide_true, List.length_nil, List.length_cons, Nat.sub_zero, dB_mk, dB_ro, List.take_zero, fPl, fLen, fTake]
  refine br_if (fun h => br_dec (by omega) ?_) (fun h => ⟨(), ?_⟩)
  rotate_left
  · rw [h2, List.drop_eq_nil_of_le (by omega)]; rfl
  have hi : i < g.l.length := by omega
  obtain ⟨c1, c2, c3, c4⟩ := fGet g.l i hi
  have w := i64_succ (show i < 9223372036854775807 by omega)
  have hd := fstF_drop g.nm g.l i hi
  simp only [c1, c2, c3, c4, w, true_and, strEq_bs]
  refine br_if (fun k => br_dec (by omega) ⟨(), ?_, ?_⟩) (fun k => ⟨i + 1, ⟨by omega, ?_⟩, by omega, rfl⟩)
  · rw [h2, hd, if_pos k]; rfl
  · unfold fsL; rw [h2, hd, if_pos k]; rfl
  · rw [h2, hd, if_neg k]
theorem eVa_ok : EntOk Tryz.prog eVa := entC_ok (by
  intro a rows p v news h hp
  split at h <;> simp only [Option.some.injEq, Prod.mk.injEq, reduceCtorEq] at h
  obtain ⟨rfl, rfl, rfl⟩ := h
  obtain ⟨⟨l, rfl, rfl⟩, h1⟩ := hp
  simp only [fsV, fsB, dF, List.append_nil]
  exact Va_con ⟨_, _, _, _, _, _, _, _⟩ l (L _) h1)
theorem Vr_con (y : TkY) (l : List Fl) (nm : List UInt8) (hl : l.length ≤ maxLen) : Con Tryz.prog 43 [.agg ⟨tkCy y 0 l.length⟩, .string (bs nm)] [gRo enF l] (.string (bs (fsL nm l))) [gRo enF l] := by
  refine con_vc (E := E0) mixed (calls_envN _) (lok_envN _) (M := mVr) (lm_one Vr_piece) (Vr_vc y l nm _) ?_
  simp only [ofNat_eq, toNat_cast, Nat.zero_add, Nat.add_zero, Nat.mul_one, List.drop_zero, bCells_len, bCells_drop, bCells_take, bCells_app, bCells_one, bCells_plain, List.length_replicate, List.length_append, List.length_take, List.length_drop, List.take_length, and_true, true_and, and_self, decide_true, List.length_nil, List.length_cons, Nat.sub_zero, dB_mk, dB_ro, List.take_zero, fPl, fLen, fTake]
  have hm : maxLen = 9223372036854775807 := by unfold maxLen; rfl
  refine ⟨⟨l, nm, y⟩, by simp only; omega, rfl, rfl, rfl, rfl, rfl, rfl, rfl, rfl, rfl, rfl, rfl, br_side (fun _ h => ?_) (fun _ h => ⟨rfl, rfl⟩)⟩
  simp only at h
  exact ⟨by unfold fsL; rw [h]; rfl, rfl⟩
theorem eVr_ok : EntOk Tryz.prog eVr := entC_ok (by
  intro a rows p v news h hp
  split at h <;> simp only [Option.some.injEq, Prod.mk.injEq, reduceCtorEq] at h
  obtain ⟨rfl, rfl, rfl⟩ := h
  obtain ⟨⟨l, rfl, rfl⟩, h1⟩ := hp
  simp only [fsV, dF, List.append_nil]
  exact Vr_con ⟨_, _, _, _, _, _, _, _⟩ l (L _) h1)
end Go.Proofs.YtkjppedfedaenaaGreatDoor.tk
