/- Steps, and whether one is not too large. -/
import Derived.Test.YtnbfhihibgdgpaaGreatDoorSz9
import Derived.Test.YtnbfhihibgdgpaaGreatDoorRows
import Derived.Test.YtnbfhihibgdgpaaGreatDoorLtok
set_option maxRecDepth 20000
set_option linter.unusedSimpArgs false
set_option linter.unusedVariables false
namespace Go.Proofs.YtnbfhihibgdgpaaGreatDoor.sn
open Go Go.Ev Go.Sy Go.RowKit Go.Proofs.YtnbfhihibgdgpaaGreatDoor.gl Go.Proofs.YtnbfhihibgdgpaaGreatDoor.tk
theorem sl_ex {α : Type} (f : α) : ∃ g, g = f := ⟨f, rfl⟩
noncomputable def sealV {α : Type} (f : α) : α := Classical.choose (sl_ex f)
theorem sealV_eq {α : Type} (f : α) : sealV f = f := Classical.choose_spec (sl_ex f)
structure Rw where
  n : List UInt8
  v : List UInt8
  h : Int
def enR (r : Rw) : List Value := [.string (bs r.n), .string (bs r.v), .int .i64 r.h]
def slR (r n : Nat) : Value := .slice (some ⟨r, 0, none⟩) n 3
def add3 (w : Rw) (n : Int) : Int := IntKind.i64.wrap (IntKind.i64.wrap (IntKind.i64.wrap (n + (w.n.length : Nat)) + (w.v.length : Nat)) + 1)
def stS : List Rw → Int → Bool
  | [], n => decide (n ≤ 4000)
  | w :: l, n => bif decide (4000 < add3 w n) then false else stS l (add3 w n)
noncomputable def stZ : Row → ByteArray → Bool := sealV fun r t => by
  classical exact if h : ∃ l : List Rw, r.cells = gC enR l then stS (Classical.choose h) ((L t).length : Nat) else false
def IsRw (r : Row) (n : Nat) : Prop := ∃ l : List Rw, r = gRo enR l ∧ n = l.length
noncomputable def eStp : EntM := entC 10 fun a r => match a, r with
  | [.agg ⟨[.int .i64 _, .int .i64 _, .int .i64 _, .int .i64 _, .slice (some ⟨0, 0, none⟩) n 3, .string t, .bool _]⟩], [r0] => some (IsRw r0 n ∧ n ≤ maxLen, .bool (stZ r0 t), [])
  | _, _ => none
structure GS where
  k : Int
  a : Int
  b : Int
  c : Int
  l : List Rw
  t : List UInt8
  e : Bool
structure SS where
  i : Nat
  n : Int
def stpC (g : GS) : List Value := [.int .i64 g.k, .int .i64 g.a, .int .i64 g.b, .int .i64 g.c, slR 0 g.l.length, .string (bs g.t), .bool g.e]
def pStp : List Nat := [0, 1, 0, 1, 1]
def slStp (g : GS) (s : SS) : List (Nat × Value) := [(1, .pointer (some ⟨1, 0, none⟩)), (3, .int .i64 s.n), (4, .int .i64 (s.i : Nat))]
noncomputable def rlStp (g : GS) : List (Nat × Row) := [(0, gRo enR g.l), (1, ⟨stpC g, false, .cells false⟩)]
noncomputable def wsStp (g : GS) : List (Gate Int) := [⟨.exit 0, fun n => decide (n ≤ 4000) = stS g.l (g.t.length : Nat), fun n => [(3, .int .i64 n)], fun _ => [(0, gRo enR g.l)], 2⟩, ⟨.ret, fun _ => stS g.l (g.t.length : Nat) = false, fun _ => [(2, .bool false)], fun _ => [(0, gRo enR g.l)], 2⟩]
noncomputable def specStp : Sy.Spec := specOf 1 2 39 (fun g : GS => g.l.length ≤ maxLen) (fun g => slStp g ⟨0, (g.t.length : Nat)⟩) rlStp wsStp
noncomputable def mStp := mOf [(10, pStp, specStp)]
theorem Stp_round (g : GS) (s : SS) (Inv : SS → Prop) (m : SS → Nat) : mev E0 noM 60 10 (0 :: pStp) false (codeOf Tryz.prog 10 (0 :: pStp)) ⟨mkOv (slStp g s), 39, []⟩ none ⟨mkR (rlStp g), 2⟩ (roundK 1 2 39 Inv m (slStp g) (fun _ => rlStp g) (wsStp g) s) =
  (br (decide ((↑s.1 : Int) < Int.ofNat (List.length g.5))) (br (decide ((0 : Int) <= (↑s.1 : Int) /\ (↑s.1 : Int) < (↑(List.length g.5) : Int))) ((Eq (α := Option Value)
  ((gC enR g.5)[0 + Int.toNat (↑s.1 : Int) * 3 + 0 + 0]?) (some (Value.string (cellS (gC enR g.5) (0 + Int.toNat (↑s.1 : Int) * 3 + 0 + 0))))) /\ (br (decide ((0 : Int) <=
  (↑s.1 : Int) /\ (↑s.1 : Int) < (↑(List.length g.5) : Int))) ((Eq (α := Option Value) ((gC enR g.5)[0 + Int.toNat (↑s.1 : Int) * 3 + 0 + 1]?) (some (Value.string (cellS (gC
  enR g.5) (0 + Int.toNat (↑s.1 : Int) * 3 + 0 + 1))))) /\ ((Value.slice (some (Addr.mk 0 0 none)) (List.length g.5) 3 = Value.slice (some (Addr.mk 0 0 none)) (List.length
  g.5) 3) /\ ((Eq (α := Option Value) ((gC enR g.5)[0 + Int.toNat (↑s.1 : Int) * 3 + 0 + 0]?) (some (Value.string (cellS (gC enR g.5) (0 + Int.toNat (↑s.1 : Int) * 3 + 0 +
  0))))) /\ ((Value.string (cellS (gC enR g.5) (0 + Int.toNat (↑s.1 : Int) * 3 + 0 + 0)) = Value.string (cellS (gC enR g.5) (0 + Int.toNat (↑s.1 : Int) * 3 + 0 + 0))) /\
  ((Value.slice (some (Addr.mk 0 0 none)) (List.length g.5) 3 = Value.slice (some (Addr.mk 0 0 none)) (List.length g.5) 3) /\ ((Eq (α := Option Value) ((gC enR g.5)[0 +
  Int.toNat (↑s.1 : Int) * 3 + 0 + 1]?) (some (Value.string (cellS (gC enR g.5) (0 + Int.toNat (↑s.1 : Int) * 3 + 0 + 1))))) /\ ((Value.string (cellS (gC enR g.5) (0 +
  Int.toNat (↑s.1 : Int) * 3 + 0 + 1)) = Value.string (cellS (gC enR g.5) (0 + Int.toNat (↑s.1 : Int) * 3 + 0 + 1))) /\ (br (decide (IntKind.wrap IntKind.i64 (IntKind.wrap
  IntKind.i64 (IntKind.wrap IntKind.i64 (s.2 + Int.ofNat (List.length (Array.toList (ByteArray.data (cellS (gC enR g.5) (0 + Int.toNat (↑s.1 : Int) * 3 + 0 + 0)))))) +
  Int.ofNat (List.length (Array.toList (ByteArray.data (cellS (gC enR g.5) (0 + Int.toNat (↑s.1 : Int) * 3 + 0 + 1)))))) + (1 : Int)) > (4000 : Int))) (∃ y : Int, ((stS g.5
  (↑(List.length g.6) : Int) = false) /\ ((false = false) /\ ((Eq (α := List Value) (gC enR g.5) (gC enR g.5)) /\ ((Plain (gC enR g.5)) /\ True))))) (∃ j : SS, ((Inv j) /\
  ((m j < m s) /\ ((0 = 0) /\ ((j.2 = IntKind.wrap IntKind.i64 (IntKind.wrap IntKind.i64 (IntKind.wrap IntKind.i64 (s.2 + Int.ofNat (List.length (Array.toList
  (ByteArray.data (cellS (gC enR g.5) (0 + Int.toNat (↑s.1 : Int) * 3 + 0 + 0)))))) + Int.ofNat (List.length (Array.toList (ByteArray.data (cellS (gC enR g.5) (0 + Int.toNat
  (↑s.1 : Int) * 3 + 0 + 1)))))) + (1 : Int))) /\ (((↑j.1 : Int) = IntKind.wrap IntKind.i64 ((↑s.1 : Int) + (1 : Int))) /\ ((Eq (α := List Value) (gC enR g.5) (gC enR g.5))
  /\ ((Plain (gC enR g.5)) /\ ((g.1 = g.1) /\ ((g.2 = g.2) /\ ((g.3 = g.3) /\ ((g.4 = g.4) /\ ((0 = 0) /\ ((List.length g.5 = List.length g.5) /\ ((bs g.6 = bs g.6) /\ ((g.7
  = g.7) /\ True)))))))))))))))))))))))) False)) False) (∃ y : Int, ((decide (y <= (4000 : Int)) = stS g.5 (↑(List.length g.6) : Int)) /\ ((y = s.2) /\ ((Eq (α := List
  Value) (gC enR g.5) (gC enR g.5)) /\ ((Plain (gC enR g.5)) /\ True)))))) := by kernel_rfl
theorem Stp_vc (g : GS) : mcall E0 mStp 60 10 [.agg ⟨stpC g⟩] ⟨mkR (nums 0 [gRo enR g.l]), 1⟩ (retIs 1 (.bool (stS g.l (g.t.length : Nat))) [gRo enR g.l]) =
  (∃ g2 : GS, ((List.length g2.5 <= 9223372036854775807) /\ ((0 = 0) /\ (((↑(List.length g2.6) : Int) = Int.ofNat (List.length (Array.toList (ByteArray.data (bs g.6))))) /\
  (((↑0 : Int) = (0 : Int)) /\ ((Eq (α := List Value) (gC enR g2.5) (gC enR g.5)) /\ ((Plain (gC enR g2.5)) /\ ((g2.1 = g.1) /\ ((g2.2 = g.2) /\ ((g2.3 = g.3) /\ ((g2.4 =
  g.4) /\ ((0 = 0) /\ ((List.length g2.5 = List.length g.5) /\ ((bs g2.6 = bs g.6) /\ ((g2.7 = g.7) /\ (∀ (side : Bool), (br (side) (∀ (y : Int), ((decide (y <= (4000 :
  Int)) = stS g2.5 (↑(List.length g2.6) : Int)) → ((stS g.5 (↑(List.length g.6) : Int) = decide (y <= (4000 : Int))) /\ ((Eq (α := List Value) (gC enR g.5) (gC enR g2.5)) /\
  ((Plain (gC enR g.5)) /\ True))))) (∀ (y : Int), ((stS g2.5 (↑(List.length g2.6) : Int) = false) → ((stS g.5 (↑(List.length g.6) : Int) = false) /\ ((Eq (α := List Value)
  (gC enR g.5) (gC enR g2.5)) /\ ((Plain (gC enR g.5)) /\ True)))))))))))))))))))))) := by kernel_rfl
theorem enR_k (a : Rw) : (enR a).length = 3 := rfl
theorem enR_p (a : Rw) : Plain (enR a) := by intro v hv; simp [enR] at hv; rcases hv with rfl | rfl | rfl <;> rfl
theorem rGet (l : List Rw) (i : Nat) (h : i < l.length) : (gC enR l)[i * 3]? = some (.string (bs l[i].n)) ∧ (gC enR l)[i * 3 + 1]? = some (.string (bs l[i].v)) ∧ (gC enR l)[i * 3 + 2]? = some (.int .i64 l[i].h) ∧ cellS (gC enR l) (i * 3) = bs l[i].n ∧ cellS (gC enR l) (i * 3 + 1) = bs l[i].v ∧ cellI (gC enR l) (i * 3 + 2) = l[i].h := by
  have h0 := gC_get enR_k l i 0 h (by omega)
  have h1 := gC_get enR_k l i 1 h (by omega)
  have h2 := gC_get enR_k l i 2 h (by omega)
  refine ⟨h0, h1, h2, ?_, ?_, ?_⟩
  · unfold cellS; rw [show (gC enR l)[i * 3]? = _ from h0]; rfl
  · unfold cellS; rw [h1]; rfl
  · unfold cellI; rw [h2]; rfl
theorem rPl (l : List Rw) : Plain (gC enR l) := gC_plain enR_p l
theorem Stp_piece : PieceOk E0 1 (10, pStp, specStp) := by
  refine piece_loop mixed (calls_envN _) (lok_envN _) lm_none (n := 60) (by kernel_rfl) (fun g : GS => (⟨0, (g.t.length : Nat)⟩ : SS)) (fun g s => s.i ≤ g.l.length ∧ stS (g.l.drop s.i) s.n = stS g.l (g.t.length : Nat)) (fun g s => g.l.length - s.i) (sl := slStp) (rl := fun g _ => rlStp g) (fun g hg => ⟨Nat.zero_le _, rfl⟩) (fun g s hg hi => ?_)
  refine (Stp_round g s _ _).mpr ?_
  obtain ⟨h1, h2⟩ := hi
  unfold maxLen at hg
  simp only [ofNat_eq, toNat_cast, Nat.zero_add, Nat.add_zero, Nat.mul_one, List.drop_zero, bCells_len, bCells_drop, bCells_take, bCells_app, bCells_one, bCells_plain, List.length_replicate, List.length_append, List.length_take, List.length_drop, List.take_length, and_true, true_and, and_self, decide_true, List.length_nil, List.length_cons, Nat.sub_zero, dB_mk, dB_ro, List.take_zero]
  refine br_if (fun h => br_dec (by omega) ?_) (fun h => ?_)
  · have hi' : s.i < g.l.length := by omega
    obtain ⟨c0, c1, _, d0, d1, _⟩ := rGet g.l s.i hi'
    have hL0 : (bs g.l[s.i].n).data.toList.length = g.l[s.i].n.length := rfl
    have hL1 : (bs g.l[s.i].v).data.toList.length = g.l[s.i].v.length := rfl
    have w1 : IntKind.i64.wrap ((s.i : Int) + 1) = ((s.i + 1 : Nat) : Int) := by rw [wr64_id (by unfold I64; omega)]; omega
    rw [List.drop_eq_getElem_cons hi'] at h2
    simp only [stS] at h2
    rw [d0, d1, hL0, hL1, w1]
    refine ⟨c0, br_dec (by omega) ⟨c1, c0, c1, br_if (fun hh => ⟨0, ?_, rPl _⟩) (fun hh => ⟨⟨s.i + 1, add3 g.l[s.i] s.n⟩, ⟨by simp only; omega, ?_⟩, by simp only; omega, rfl, rfl, rPl _⟩)⟩⟩
    · rw [← h2, show decide (4000 < add3 g.l[s.i] s.n) = true from decide_eq_true hh]; rfl
    · simp only
      rw [← h2, show decide (4000 < add3 g.l[s.i] s.n) = false from decide_eq_false hh]; rfl
  · have : s.i = g.l.length := by omega
    rw [this, List.drop_length] at h2
    exact ⟨s.n, h2, rfl, rPl _⟩
theorem Stp_con (g : GS) (h : g.l.length ≤ maxLen) : Con Tryz.prog 10 [.agg ⟨stpC g⟩] [gRo enR g.l] (.bool (stS g.l (g.t.length : Nat))) [gRo enR g.l] := by
  refine con_vc (E := E0) mixed (calls_envN _) (lok_envN _) (M := mStp) (lm_one Stp_piece) (Stp_vc g) ?_
  simp only [ofNat_eq, toNat_cast, Nat.zero_add, Nat.add_zero, Nat.mul_one, List.drop_zero, bCells_len, bCells_drop, bCells_take, bCells_app, bCells_one, bCells_plain, List.length_replicate, List.length_append, List.length_take, List.length_drop, List.take_length, and_true, true_and, and_self, decide_true, List.length_nil, List.length_cons, Nat.sub_zero, dB_mk, dB_ro, List.take_zero]
  exact ⟨g, h, rfl, rfl, rPl _, rfl, rfl, rfl, rfl, rfl, rfl, rfl, fun side => by
    cases side with
    | true => exact fun y hy => ⟨hy.symm, rfl, rPl _⟩
    | false => exact fun y hy => ⟨hy, rfl, rPl _⟩⟩
theorem eStp_ok : EntOk Tryz.prog eStp := entC_ok (by
  intro a rows p v news h hp
  split at h <;> simp only [Option.some.injEq, Prod.mk.injEq, reduceCtorEq] at h
  obtain ⟨rfl, rfl, rfl⟩ := h
  rename_i k0 a0 b0 c0 n t e r0
  obtain ⟨⟨l, rfl, rfl⟩, hl⟩ := hp
  have hex : ∃ m : List Rw, (gRo enR l).cells = gC enR m := ⟨l, rfl⟩
  have hz : stZ (gRo enR l) t = stS (Classical.choose hex) ((L t).length : Nat) := by
    unfold stZ; rw [sealV_eq]; exact dif_pos hex
  have hm := Classical.choose_spec hex
  rw [hz]
  generalize Classical.choose hex = m at hm ⊢
  have hlen : l.length = m.length := by
    have e1 := congrArg List.length (show gC enR l = gC enR m from hm)
    rw [gC_len enR_k, gC_len enR_k] at e1; omega
  have e2 : gRo enR l = gRo enR m := by unfold gRo; rw [show gC enR l = gC enR m from hm]
  rw [e2, hlen]
  exact Stp_con ⟨k0, a0, b0, c0, m, L t, e⟩ (by simp only; omega))
end Go.Proofs.YtnbfhihibgdgpaaGreatDoor.sn
