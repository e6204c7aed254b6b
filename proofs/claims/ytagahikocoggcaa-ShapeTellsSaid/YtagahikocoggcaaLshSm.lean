/- Lists of settings held against each other; frames' parts as entries of tables. -/
import Derived.Test.YtagahikocoggcaaSz9
import Derived.Test.YtagahikocoggcaaRows
import Derived.Test.YtagahikocoggcaaLshOf
set_option maxRecDepth 20000
set_option linter.unusedSimpArgs false
set_option linter.unusedVariables false
namespace Go.Proofs.Ytagahikocoggcaa.sh
open Go Go.Ev Go.Sy Go.RowKit Go.Proofs.Ytagahikocoggcaa.gl
def pSame : List Nat := [0, 1, 0, 1, 1]
structure GSame where
  a : List Se
  b : List Se
def slSame (g : GSame) (i : Nat) : List (Nat × Value) := [(0, .slice (some ⟨0, 0, none⟩) g.a.length 2), (1, .slice (some ⟨1, 0, none⟩) g.b.length 2), (5, .int .i64 (i : Nat))]
def rlSame (g : GSame) : List (Nat × Row) := [(0, gRo seC g.a), (1, gRo seC g.b)]
def wsSame (g : GSame) : List (Gate Unit) := [⟨.exit 0, fun _ => g.a = g.b, fun _ => [], fun _ => rlSame g, 2⟩, ⟨.ret, fun _ => g.a ≠ g.b, fun _ => [(4, .bool false)], fun _ => rlSame g, 2⟩]
def specSame : Sy.Spec := specOf 2 2 26 (fun g : GSame => g.a.length = g.b.length ∧ g.a.length ≤ maxLen) (fun g => slSame g 0) (fun g => rlSame g) wsSame
def mSame := mOf [(24, pSame, specSame)]
def IsSe (r : Row) (n : Nat) : Prop := ∃ l, r = gRo seC l ∧ n = l.length
open Classical in
noncomputable def sameSe (a b : List Se) : Bool := decide (a = b)
noncomputable def eSaS : EntM := entC 24 fun a r => match a, r with
  | [.slice (some ⟨0, 0, none⟩) n 2, .slice (some ⟨1, 0, none⟩) m 2], [r0, r1] => some (IsSe r0 n ∧ IsSe r1 m ∧ n ≤ maxLen ∧ r0.cells = r1.cells, .bool true, [])
  | _, _ => none
def oTy (ty fl st : Int) (r : Row) : Int := (shO ty fl st (dB r)).y.ty
def oSt (ty fl st : Int) (r : Row) : Int := (shO ty fl st (dB r)).y.st
def oE (ty fl st : Int) (r : Row) : Bool := (shO ty fl st (dB r)).y.e
def oF (ty fl st : Int) (r : Row) : Bool := (shO ty fl st (dB r)).y.f
def oA (ty fl st : Int) (r : Row) : Bool := (shO ty fl st (dB r)).y.a
def oCo (ty fl st : Int) (r : Row) : Int := (shO ty fl st (dB r)).y.co
def oLa (ty fl st : Int) (r : Row) : Int := (shO ty fl st (dB r)).y.la
def oMo (ty fl st : Int) (r : Row) : Int := (shO ty fl st (dB r)).y.mo
def oCs (ty fl st : Int) (r : Row) : Int := (shO ty fl st (dB r)).y.cs
def oBn (ty fl st : Int) (r : Row) : Nat := (shO ty fl st (dB r)).b.length
def oBc (ty fl st : Int) (r : Row) : List Value := bCells (shO ty fl st (dB r)).b
def oSn (ty fl st : Int) (r : Row) : Nat := (shO ty fl st (dB r)).se.length
def oSc (ty fl st : Int) (r : Row) : List Value := gC seC (shO ty fl st (dB r)).se
def oXs (ty fl st : Int) (r : Row) : Int := (shO ty fl st (dB r)).sc
def oXc (ty fl st : Int) (r : Row) : Int := (shO ty fl st (dB r)).cd
def oXn (ty fl st : Int) (r : Row) : Int := (shO ty fl st (dB r)).sn
noncomputable def eOf : EntM := entC 10 fun a r => match a, r with
  | [.agg ⟨[.int .i64 ty, .int .i64 fl, .int .i64 st, .slice (some ⟨0, 0, none⟩) n 1]⟩], [r0] => some (IsB r0 n ∧ n ≤ 16777216, .tuple #[.agg ⟨[.int .i64 (oTy ty fl st r0), .int .i64 (oSt ty fl st r0), .bool (oE ty fl st r0), .bool (oF ty fl st r0), .bool (oA ty fl st r0), .slice (some ⟨1, 0, none⟩) (oBn ty fl st r0) 1, .int .i64 (oCo ty fl st r0), .int .i64 (oLa ty fl st r0), .int .i64 (oMo ty fl st r0), .int .i64 (oCs ty fl st r0), .slice (some ⟨2, 0, none⟩) (oSn ty fl st r0) 2]⟩, .agg ⟨[.int .i64 (oXs ty fl st r0), .int .i64 (oXc ty fl st r0), .int .i64 (oXn ty fl st r0)]⟩], [⟨oBc ty fl st r0, false, .cells true⟩, ⟨oSc ty fl st r0, false, .cells true⟩])
  | _, _ => none
theorem same_round (g : GSame) (i : Nat) (Inv : Nat → Prop) (m : Nat → Nat) : mev E0 noM 60 24 (0 :: pSame) false (codeOf Try.prog 24 (0 :: pSame)) ⟨mkOv (slSame g i), 26, []⟩ none ⟨mkR (rlSame g), 2⟩ (roundK 2 2 26 Inv m (slSame g) (fun _ => rlSame g) (wsSame g) i) =
  (br (decide ((↑i : Int) < Int.ofNat (List.length g.1)))
   (br (decide ((0 : Int) ≤ (↑i : Int) ∧ (↑i : Int) < (↑(List.length g.1) : Int)))
    ((Eq (α := Option Value) ((gC seC g.1)[(0 : Nat) + Int.toNat (↑i : Int) * (2 : Nat)]?) (some (Value.int IntKind.i64 (cellI (gC seC g.1) ((0 : Nat) + Int.toNat (↑i : Int) * (2 : Nat)))))) ∧
    ((Eq (α := Option Value) ((gC seC g.1)[(0 : Nat) + Int.toNat (↑i : Int) * (2 : Nat) + (1 : Nat)]?) (some (Value.int IntKind.i64 (cellI (gC seC g.1) ((0 : Nat) + Int.toNat (↑i : Int) * (2 : Nat) + (1 : Nat)))))) ∧
    (br (decide ((0 : Int) ≤ (↑i : Int) ∧ (↑i : Int) < (↑(List.length g.2) : Int)))
     ((Eq (α := Option Value) ((gC seC g.2)[(0 : Nat) + Int.toNat (↑i : Int) * (2 : Nat)]?) (some (Value.int IntKind.i64 (cellI (gC seC g.2) ((0 : Nat) + Int.toNat (↑i : Int) * (2 : Nat)))))) ∧
     ((Eq (α := Option Value) ((gC seC g.2)[(0 : Nat) + Int.toNat (↑i : Int) * (2 : Nat) + (1 : Nat)]?) (some (Value.int IntKind.i64 (cellI (gC seC g.2) ((0 : Nat) + Int.toNat (↑i : Int) * (2 : Nat) + (1 : Nat)))))) ∧
     ((Eq (α := Option Value) ((gC seC g.1)[(0 : Nat) + Int.toNat (↑i : Int) * (2 : Nat)]?) (some (Value.int IntKind.i64 (cellI (gC seC g.1) ((0 : Nat) + Int.toNat (↑i : Int) * (2 : Nat)))))) ∧
     ((Eq (α := Option Value) ((gC seC g.1)[(0 : Nat) + Int.toNat (↑i : Int) * (2 : Nat) + (1 : Nat)]?) (some (Value.int IntKind.i64 (cellI (gC seC g.1) ((0 : Nat) + Int.toNat (↑i : Int) * (2 : Nat) + (1 : Nat)))))) ∧
     ((Value.agg (Array.mk [Value.int IntKind.i64 (cellI (gC seC g.1) ((0 : Nat) + Int.toNat (↑i : Int) * (2 : Nat))), Value.int IntKind.i64 (cellI (gC seC g.1) ((0 : Nat) + Int.toNat (↑i : Int) * (2 : Nat) + (1 : Nat)))]) = Value.agg (Array.mk [Value.int IntKind.i64 (cellI (gC seC g.1) ((0 : Nat) + Int.toNat (↑i : Int) * (2 : Nat))), Value.int IntKind.i64 (cellI (gC seC g.1) ((0 : Nat) + Int.toNat (↑i : Int) * (2 : Nat) + (1 : Nat)))])) ∧
     ((Eq (α := Option Value) ((gC seC g.2)[(0 : Nat) + Int.toNat (↑i : Int) * (2 : Nat)]?) (some (Value.int IntKind.i64 (cellI (gC seC g.2) ((0 : Nat) + Int.toNat (↑i : Int) * (2 : Nat)))))) ∧
     ((Eq (α := Option Value) ((gC seC g.2)[(0 : Nat) + Int.toNat (↑i : Int) * (2 : Nat) + (1 : Nat)]?) (some (Value.int IntKind.i64 (cellI (gC seC g.2) ((0 : Nat) + Int.toNat (↑i : Int) * (2 : Nat) + (1 : Nat)))))) ∧
     ((Value.agg (Array.mk [Value.int IntKind.i64 (cellI (gC seC g.2) ((0 : Nat) + Int.toNat (↑i : Int) * (2 : Nat))), Value.int IntKind.i64 (cellI (gC seC g.2) ((0 : Nat) + Int.toNat (↑i : Int) * (2 : Nat) + (1 : Nat)))]) = Value.agg (Array.mk [Value.int IntKind.i64 (cellI (gC seC g.2) ((0 : Nat) + Int.toNat (↑i : Int) * (2 : Nat))), Value.int IntKind.i64 (cellI (gC seC g.2) ((0 : Nat) + Int.toNat (↑i : Int) * (2 : Nat) + (1 : Nat)))])) ∧
     (br (!(cellI (gC seC g.1) ((0 : Nat) + Int.toNat (↑i : Int) * (2 : Nat)) == cellI (gC seC g.2) ((0 : Nat) + Int.toNat (↑i : Int) * (2 : Nat)) && (cellI (gC seC g.1) ((0 : Nat) + Int.toNat (↑i : Int) * (2 : Nat) + (1 : Nat)) == cellI (gC seC g.2) ((0 : Nat) + Int.toNat (↑i : Int) * (2 : Nat) + (1 : Nat)) && true)))
      (∃ y : Unit, ((g.1 ≠ g.2) ∧
      ((false = false) ∧
      ((Eq (α := List Value) (gC seC g.1) (gC seC g.1)) ∧
      ((Plain (gC seC g.1)) ∧
      ((Eq (α := List Value) (gC seC g.2) (gC seC g.2)) ∧
      ((Plain (gC seC g.2)) ∧
      True)))))))
      (∃ j : Nat, ((Inv j) ∧
      ((m j < m i) ∧
      (((0 : Nat) = (0 : Nat)) ∧
      ((List.length g.1 = List.length g.1) ∧
      (((0 : Nat) = (0 : Nat)) ∧
      ((List.length g.2 = List.length g.2) ∧
      (((↑j : Int) = IntKind.wrap IntKind.i64 ((↑i : Int) + (1 : Int))) ∧
      ((Eq (α := List Value) (gC seC g.1) (gC seC g.1)) ∧
      ((Plain (gC seC g.1)) ∧
      ((Eq (α := List Value) (gC seC g.2) (gC seC g.2)) ∧
      ((Plain (gC seC g.2)) ∧
      True)))))))))))))))))))))
     False)))
    False)
   (∃ y : Unit, ((Eq (α := List Se) (g.1) (g.2)) ∧
   ((Eq (α := List Value) (gC seC g.1) (gC seC g.1)) ∧
   ((Plain (gC seC g.1)) ∧
   ((Eq (α := List Value) (gC seC g.2) (gC seC g.2)) ∧
   ((Plain (gC seC g.2)) ∧
   True))))))) := by kernel_rfl
theorem same_vc (a b : List Se) (v : Bool) : mcall E0 mSame 60 24 [.slice (some ⟨0, 0, none⟩) a.length 2, .slice (some ⟨1, 0, none⟩) b.length 2] ⟨mkR (nums 0 [gRo seC a, gRo seC b]), 2⟩ (retIs 2 (.bool v) [gRo seC a, gRo seC b]) =
  (br (Int.ofNat (List.length a) != Int.ofNat (List.length b))
   ((v = false) ∧
   ((Eq (α := List Value) (gC seC a) (gC seC a)) ∧
   ((Plain (gC seC a)) ∧
   ((Eq (α := List Value) (gC seC b) (gC seC b)) ∧
   ((Plain (gC seC b)) ∧
   True)))))
   (∃ g : GSame, ((List.length g.1 = List.length g.2 ∧ List.length g.1 ≤ (9223372036854775807 : Nat)) ∧
   (((0 : Nat) = (0 : Nat)) ∧
   ((List.length g.1 = List.length a) ∧
   (((0 : Nat) = (0 : Nat)) ∧
   ((List.length g.2 = List.length b) ∧
   (((0 : Int) = (0 : Int)) ∧
   ((Eq (α := List Value) (gC seC g.1) (gC seC a)) ∧
   ((Plain (gC seC g.1)) ∧
   ((Eq (α := List Value) (gC seC g.2) (gC seC b)) ∧
   ((Plain (gC seC g.2)) ∧
   (∀ (side : Bool), (br (side)
    (∀ (y : Unit), ((g.1 = g.2) →
    ((v = true) ∧
    ((Eq (α := List Value) (gC seC a) (gC seC g.1)) ∧
    ((Plain (gC seC a)) ∧
    ((Eq (α := List Value) (gC seC b) (gC seC g.2)) ∧
    ((Plain (gC seC b)) ∧
    True)))))))
    (∀ (y : Unit), ((g.1 ≠ g.2) →
    ((v = false) ∧
    ((Eq (α := List Value) (gC seC a) (gC seC g.1)) ∧
    ((Plain (gC seC a)) ∧
    ((Eq (α := List Value) (gC seC b) (gC seC g.2)) ∧
    ((Plain (gC seC b)) ∧
    True))))))))))))))))))))) := by kernel_rfl
theorem cellI_of {l : List Value} {i : Nat} {k : IntKind} {n : Int} (h : l[i]? = some (.int k n)) : cellI l i = n := by unfold cellI; rw [h]
theorem seGet (l : List Se) (i : Nat) (h : i < l.length) : (gC seC l)[i * 2]? = some (.int .i64 l[i].i) ∧ (gC seC l)[i * 2 + 1]? = some (.int .i64 l[i].v) ∧ cellI (gC seC l) (i * 2) = l[i].i ∧ cellI (gC seC l) (i * 2 + 1) = l[i].v := by
  have h1 := gC_get seK l i 0 h (by omega)
  have h2 := gC_get seK l i 1 h (by omega)
  exact ⟨h1, h2, cellI_of h1, cellI_of h2⟩
theorem take_succ {α : Type} {l : List α} {i : Nat} (h : i < l.length) : l.take (i + 1) = l.take i ++ [l[i]] := List.take_succ_eq_append_getElem h
theorem sameSe_yes {a b : List Se} (h : a = b) : sameSe a b = true := by unfold sameSe; simp [h]
theorem sameSe_no {a b : List Se} (h : a ≠ b) : sameSe a b = false := by unfold sameSe; simp [h]
def invSame (g : GSame) (i : Nat) : Prop := i ≤ g.a.length ∧ g.a.take i = g.b.take i
theorem same_piece : PieceOk E0 2 (24, pSame, specSame) := by
  refine piece_loop mixed (calls_envN _) (lok_envN _) lm_none (n := 60) (by kernel_rfl) (fun _ => 0) invSame (fun g i => g.a.length - i) (sl := slSame) (rl := fun g _ => rlSame g) (fun g _ => ⟨by omega, rfl⟩) (fun g i hg hi => ?_)
  obtain ⟨g1, g2⟩ := hg
  unfold maxLen at g2
  refine (same_round g i _ _).mpr ?_
  simp only [ofNat_eq, toNat_cast, Nat.zero_add, Nat.add_zero, Nat.mul_one, List.drop_zero, bCells_len, bCells_drop, bCells_take, bCells_app, bCells_one, bCells_plain, List.length_replicate, List.length_append, List.length_take, List.length_drop, List.take_length, and_true, true_and, and_self, decide_true, List.length_nil, List.length_cons, Nat.sub_zero, dB_mk, dB_ro, List.take_zero, sePl]
  refine br_if (fun h => br_dec (by omega) ?_) (fun h => ?_)
  · have h1 : i < g.a.length := by omega
    have h2 : i < g.b.length := by omega
    obtain ⟨c1, c2, c3, c4⟩ := seGet g.a i h1
    obtain ⟨d1, d2, d3, d4⟩ := seGet g.b i h2
    simp only [c1, c2, c3, c4, d1, d2, d3, d4, true_and]
    refine br_dec (by omega) (br_intro (fun h3 => ⟨(), fun e => ?_⟩) (fun h3 => ?_))
    · have e' : g.a[i] = g.b[i] := by simp only [e]
      rw [e'] at h3; simp at h3
    · have h4 : g.a[i].i = g.b[i].i ∧ g.a[i].v = g.b[i].v := by simpa using h3
      have h5 : g.a[i] = g.b[i] := by
        revert h4
        generalize g.a[i] = x; generalize g.b[i] = y
        intro h4
        obtain ⟨a, b⟩ := x; obtain ⟨c, d⟩ := y
        obtain ⟨rfl, rfl⟩ := h4; rfl
      refine ⟨i + 1, ⟨by omega, ?_⟩, by omega, (i64_succ (by omega)).symm⟩
      rw [take_succ h1, take_succ h2, hi.2, h5]
  · refine ⟨(), ?_⟩
    have := hi.2
    rw [List.take_of_length_le (by omega), List.take_of_length_le (by omega)] at this
    exact this
theorem same_con (a b : List Se) (ha : a.length ≤ maxLen) : Con Try.prog 24 [.slice (some ⟨0, 0, none⟩) a.length 2, .slice (some ⟨1, 0, none⟩) b.length 2] [gRo seC a, gRo seC b] (.bool (sameSe a b)) [gRo seC a, gRo seC b] := by
  refine con_vc (E := E0) mixed (calls_envN _) (lok_envN _) (M := mSame) (lm_one same_piece) (same_vc a b _) ?_
  simp only [ofNat_eq, toNat_cast, Nat.zero_add, Nat.add_zero, Nat.mul_one, List.drop_zero, bCells_len, bCells_drop, bCells_take, bCells_app, bCells_one, bCells_plain, List.length_replicate, List.length_append, List.length_take, List.length_drop, List.take_length, and_true, true_and, and_self, decide_true, List.length_nil, List.length_cons, Nat.sub_zero, dB_mk, dB_ro, List.take_zero, sePl]
  refine br_intro (fun h => ?_) (fun h => ?_)
  · refine sameSe_no fun e => ?_
    rw [e] at h; simp at h
  · have h : a.length = b.length := by
      have : (a.length : Int) = b.length := by simpa using h
      omega
    refine ⟨⟨a, b⟩, ⟨h, ha⟩, rfl, rfl, rfl, rfl, br_side (fun _ e => ?_) (fun _ e => ?_)⟩
    · exact ⟨sameSe_yes e, rfl, rfl⟩
    · exact ⟨sameSe_no e, rfl, rfl⟩
def decS : List Value → List Se
  | .int _ i :: .int _ v :: r => ⟨i, v⟩ :: decS r
  | _ => []
theorem decS_cells : ∀ l : List Se, decS (gC seC l) = l
  | [] => rfl
  | s :: l => by
    have := decS_cells l
    rw [gC_cons]
    show _ :: decS (gC seC l) = _
    rw [this]
theorem se_inj {a b : List Se} (h : gC seC a = gC seC b) : a = b := by rw [← decS_cells a, h, decS_cells]
theorem by_inj {a b : List UInt8} (h : bCells a = bCells b) : a = b := by rw [← bCells_bOf a, h, bCells_bOf]
theorem eSaS_ok : EntOk Try.prog eSaS := entC_ok (by
  intro a rows p v news h hp
  split at h <;> simp only [Option.some.injEq, Prod.mk.injEq, reduceCtorEq] at h
  obtain ⟨rfl, rfl, rfl⟩ := h
  obtain ⟨⟨l, rfl, rfl⟩, ⟨m, rfl, rfl⟩, h1, h2⟩ := hp
  have h2 := se_inj h2
  subst h2
  rw [List.append_nil]
  have := same_con l l h1
  rwa [sameSe_yes rfl] at this)
theorem isSe_eq (l : List Se) : IsSe ⟨gC seC l, true, .cells true⟩ l.length = True := eq_true ⟨l, rfl, rfl⟩
theorem seTake (l : List Se) : List.take (l.length * 2) (gC seC l) = gC seC l := List.take_of_length_le (by rw [seL]; omega)
theorem eOf_ok : EntOk Try.prog eOf := entC_ok (by
  intro a rows p v news h hp
  split at h <;> simp only [Option.some.injEq, Prod.mk.injEq, reduceCtorEq] at h
  obtain ⟨rfl, rfl, rfl⟩ := h
  obtain ⟨⟨l, rfl, rfl⟩, h1⟩ := hp
  simp only [oTy, oSt, oE, oF, oA, oCo, oLa, oMo, oCs, oBn, oBc, oSn, oSc, oXs, oXc, oXn, dB_ro]
  exact Of_con _ _ _ l h1)
end Go.Proofs.Ytagahikocoggcaa.sh
