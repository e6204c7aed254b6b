/- An ask that is not too large. -/
import Derived.Test.YtcallecdjebojaaGreatSz9
import Derived.Test.YtcallecdjebojaaGreatRows
import Derived.Test.YtcallecdjebojaaGreatLwit
import Derived.Test.YtcallecdjebojaaGreatLints
set_option maxRecDepth 20000
set_option linter.unusedSimpArgs false
set_option linter.unusedVariables false
namespace Go.Proofs.YtcallecdjebojaaGreat.cs
open Go Go.Ev Go.Sy Go.RowKit Go.Proofs.YtcallecdjebojaaGreat.gl Go.Proofs.YtcallecdjebojaaGreat.tk Go.Proofs.YtcallecdjebojaaGreat.ic
structure Rx where
  n : ByteArray
  v : ByteArray
  h : Int
def enX (r : Rx) : List Value := [.string r.n, .string r.v, .int .i64 r.h]
def decX : List Value → List Rx
  | .string n :: .string v :: .int _ h :: r => ⟨n, v, h⟩ :: decX r
  | _ => []
def stX (n : Int) (r : Rx) : Int := IntKind.i64.wrap (IntKind.i64.wrap (IntKind.i64.wrap (n + (r.n.data.toList.length : Nat)) + (r.v.data.toList.length : Nat)) + 1)
def liS : Int → List Rx → Bool
  | _, [] => true
  | n, r :: l => if stX n r > 2000 then false else liS (stX n r) l
def liA (l : List Rx) (p q t : Int) : Bool := liS 0 l && decide (p ≤ 2000) && decide (q ≤ 2000) && decide (t ≤ 70000)
theorem exZ {α : Type} (x : α) : ∃ y, y = x := ⟨x, rfl⟩
noncomputable def lgA : Row → Int → Int → Int → Bool := Classical.choose (exZ fun (r : Row) (p q t : Int) => liA (decX r.cells) p q t)
def IsX (r : Row) (n : Nat) : Prop := ∃ l, r = gRo enX l ∧ n = l.length ∧ l.length ≤ maxLen
def IsY (r : Row) : Prop := ∃ l : List UInt8, r = bRo l
noncomputable def eLi : EntM := entC 28 fun a r => match a, r with
  | [.agg ⟨[.int .i64 _, .int .i64 _, .int .i64 _, .int .i64 _, .int .i64 _, .int .i64 _, .slice (some ⟨0, 0, none⟩) p 1, .slice (some ⟨1, 0, none⟩) q 1, .slice (some ⟨2, 0, none⟩) n 3, .string t, .bool _]⟩], [r0, r1, r2] => some (IsY r0 ∧ IsY r1 ∧ IsX r2 n, .bool (lgA r2 (p : Nat) (q : Nat) (t.data.toList.length : Nat)), [])
  | _, _ => none
structure GL where
  l : List Rx
  a : Int
  b : Int
  c : Int
  d : Int
  e : Int
  f : Int
  p : Nat
  q : Nat
  t : ByteArray
  k : Bool
  r0 : List UInt8
  r1 : List UInt8
def agL (g : GL) : List Value := [.int .i64 g.a, .int .i64 g.b, .int .i64 g.c, .int .i64 g.d, .int .i64 g.e, .int .i64 g.f, .slice (some ⟨0, 0, none⟩) g.p 1, .slice (some ⟨1, 0, none⟩) g.q 1, .slice (some ⟨2, 0, none⟩) g.l.length 3, .string g.t, .bool g.k]
def pL : List Nat := [0, 1, 0, 1, 1]
def slL (i : Nat) (n : Int) : List (Nat × Value) := [(1, .pointer (some ⟨3, 0, none⟩)), (3, .int .i64 n), (4, .int .i64 (i : Nat))]
def rlL (g : GL) : List (Nat × Row) := [(0, bRo g.r0), (1, bRo g.r1), (2, gRo enX g.l), (3, ⟨agL g, false, .cells false⟩)]
def wsL (g : GL) : List (Gate Unit) := [⟨.exit 0, fun _ => liS 0 g.l = true, fun _ => [(1, .pointer (some ⟨3, 0, none⟩))], fun _ => rlL g, 4⟩, ⟨.ret, fun _ => liS 0 g.l = false, fun _ => [(2, .bool false)], fun _ => [(0, bRo g.r0), (1, bRo g.r1), (2, gRo enX g.l)], 4⟩]
def specL : Sy.Spec := specOf 3 4 51 (fun g : GL => g.l.length ≤ maxLen) (fun _ => slL 0 0) rlL wsL
def mL := mOf [(28, pL, specL)]
theorem L_round (g : GL) (s : Nat × Int) (Inv : Nat × Int → Prop) (m : Nat × Int → Nat) : mev tk.E0 noM 60 28 (0 :: pL) false (codeOf Tryz.prog 28 (0 :: pL)) ⟨mkOv (slL s.1 s.2), 51, []⟩ none ⟨mkR (rlL g), 4⟩ (roundK 3 4 51 Inv m (fun s => slL s.1 s.2) (fun _ => rlL g) (wsL g) s) =
  (br (decide ((↑s.1 : Int) < Int.ofNat (List.length g.1))) (br (decide ((0 : Int) <= (↑s.1 : Int) /\ (↑s.1 : Int) < (↑(List.length g.1) : Int))) ((Eq (α := Option Value)
  ((gC enX g.1)[0 + Int.toNat (↑s.1 : Int) * 3 + 0 + 0]?) (some (Value.string (cellS (gC enX g.1) (0 + Int.toNat (↑s.1 : Int) * 3 + 0 + 0))))) /\ (br (decide ((0 : Int) <=
  (↑s.1 : Int) /\ (↑s.1 : Int) < (↑(List.length g.1) : Int))) ((Eq (α := Option Value) ((gC enX g.1)[0 + Int.toNat (↑s.1 : Int) * 3 + 0 + 1]?) (some (Value.string (cellS (gC
  enX g.1) (0 + Int.toNat (↑s.1 : Int) * 3 + 0 + 1))))) /\ ((Value.slice (some (Addr.mk 2 0 none)) (List.length g.1) 3 = Value.slice (some (Addr.mk 2 0 none)) (List.length
  g.1) 3) /\ ((Eq (α := Option Value) ((gC enX g.1)[0 + Int.toNat (↑s.1 : Int) * 3 + 0 + 0]?) (some (Value.string (cellS (gC enX g.1) (0 + Int.toNat (↑s.1 : Int) * 3 + 0 +
  0))))) /\ ((Value.string (cellS (gC enX g.1) (0 + Int.toNat (↑s.1 : Int) * 3 + 0 + 0)) = Value.string (cellS (gC enX g.1) (0 + Int.toNat (↑s.1 : Int) * 3 + 0 + 0))) /\
  ((Value.slice (some (Addr.mk 2 0 none)) (List.length g.1) 3 = Value.slice (some (Addr.mk 2 0 none)) (List.length g.1) 3) /\ ((Eq (α := Option Value) ((gC enX g.1)[0 +
  Int.toNat (↑s.1 : Int) * 3 + 0 + 1]?) (some (Value.string (cellS (gC enX g.1) (0 + Int.toNat (↑s.1 : Int) * 3 + 0 + 1))))) /\ ((Value.string (cellS (gC enX g.1) (0 +
  Int.toNat (↑s.1 : Int) * 3 + 0 + 1)) = Value.string (cellS (gC enX g.1) (0 + Int.toNat (↑s.1 : Int) * 3 + 0 + 1))) /\ (br (decide (IntKind.wrap IntKind.i64 (IntKind.wrap
  IntKind.i64 (IntKind.wrap IntKind.i64 (s.2 + Int.ofNat (List.length (Array.toList (ByteArray.data (cellS (gC enX g.1) (0 + Int.toNat (↑s.1 : Int) * 3 + 0 + 0)))))) +
  Int.ofNat (List.length (Array.toList (ByteArray.data (cellS (gC enX g.1) (0 + Int.toNat (↑s.1 : Int) * 3 + 0 + 1)))))) + (1 : Int)) > (2000 : Int))) (∃ y : Unit, ((liS (0
  : Int) g.1 = false) /\ ((false = false) /\ ((Eq (α := List Value) (bCells g.12) (bCells g.12)) /\ ((Plain (bCells g.12)) /\ ((Eq (α := List Value) (bCells g.13) (bCells
  g.13)) /\ ((Plain (bCells g.13)) /\ ((Eq (α := List Value) (gC enX g.1) (gC enX g.1)) /\ ((Plain (gC enX g.1)) /\ True))))))))) (∃ j : Nat × Int, ((Inv j) /\ ((m j < m s)
  /\ ((0 = 0) /\ ((j.2 = IntKind.wrap IntKind.i64 (IntKind.wrap IntKind.i64 (IntKind.wrap IntKind.i64 (s.2 + Int.ofNat (List.length (Array.toList (ByteArray.data (cellS (gC
  enX g.1) (0 + Int.toNat (↑s.1 : Int) * 3 + 0 + 0)))))) + Int.ofNat (List.length (Array.toList (ByteArray.data (cellS (gC enX g.1) (0 + Int.toNat (↑s.1 : Int) * 3 + 0 +
  1)))))) + (1 : Int))) /\ (((↑j.1 : Int) = IntKind.wrap IntKind.i64 ((↑s.1 : Int) + (1 : Int))) /\ ((Eq (α := List Value) (bCells g.12) (bCells g.12)) /\ ((Plain (bCells
  g.12)) /\ ((Eq (α := List Value) (bCells g.13) (bCells g.13)) /\ ((Plain (bCells g.13)) /\ ((Eq (α := List Value) (gC enX g.1) (gC enX g.1)) /\ ((Plain (gC enX g.1)) /\
  ((g.2 = g.2) /\ ((g.3 = g.3) /\ ((g.4 = g.4) /\ ((g.5 = g.5) /\ ((g.6 = g.6) /\ ((g.7 = g.7) /\ ((0 = 0) /\ ((g.8 = g.8) /\ ((0 = 0) /\ ((g.9 = g.9) /\ ((0 = 0) /\
  ((List.length g.1 = List.length g.1) /\ ((g.10 = g.10) /\ ((g.11 = g.11) /\ True)))))))))))))))))))))))))))))))))) False)) False) (∃ y : Unit, ((liS (0 : Int) g.1 = true)
  /\ ((0 = 0) /\ ((Eq (α := List Value) (bCells g.12) (bCells g.12)) /\ ((Plain (bCells g.12)) /\ ((Eq (α := List Value) (bCells g.13) (bCells g.13)) /\ ((Plain (bCells
  g.13)) /\ ((Eq (α := List Value) (gC enX g.1) (gC enX g.1)) /\ ((Plain (gC enX g.1)) /\ ((g.2 = g.2) /\ ((g.3 = g.3) /\ ((g.4 = g.4) /\ ((g.5 = g.5) /\ ((g.6 = g.6) /\
  ((g.7 = g.7) /\ ((0 = 0) /\ ((g.8 = g.8) /\ ((0 = 0) /\ ((g.9 = g.9) /\ ((0 = 0) /\ ((List.length g.1 = List.length g.1) /\ ((g.10 = g.10) /\ ((g.11 = g.11) /\
  True)))))))))))))))))))))))) := by kernel_rfl
theorem L_vc (g : GL) (v : Bool) : mcall tk.E0 mL 60 28 [.agg ⟨agL g⟩] ⟨mkR (nums 0 [bRo g.r0, bRo g.r1, gRo enX g.l]), 3⟩ (retIs 3 (.bool v) [bRo g.r0, bRo g.r1, gRo enX g.l]) =
  (∃ g2 : GL, ((List.length g2.1 <= 9223372036854775807) /\ ((0 = 0) /\ (((0 : Int) = (0 : Int)) /\ (((0 : Int) = (0 : Int)) /\ ((Eq (α := List Value) (bCells g2.12) (bCells
  g.12)) /\ ((Plain (bCells g2.12)) /\ ((Eq (α := List Value) (bCells g2.13) (bCells g.13)) /\ ((Plain (bCells g2.13)) /\ ((Eq (α := List Value) (gC enX g2.1) (gC enX g.1))
  /\ ((Plain (gC enX g2.1)) /\ ((g2.2 = g.2) /\ ((g2.3 = g.3) /\ ((g2.4 = g.4) /\ ((g2.5 = g.5) /\ ((g2.6 = g.6) /\ ((g2.7 = g.7) /\ ((0 = 0) /\ ((g2.8 = g.8) /\ ((0 = 0) /\
  ((g2.9 = g.9) /\ ((0 = 0) /\ ((List.length g2.1 = List.length g.1) /\ ((g2.10 = g.10) /\ ((g2.11 = g.11) /\ (∀ (side : Bool), (br (side) (∀ (y : Unit), ((liS (0 : Int)
  g2.1 = true) → (br (decide (Int.ofNat g2.8 <= (2000 : Int))) (br (decide (Int.ofNat g2.9 <= (2000 : Int))) ((v = decide (Int.ofNat (List.length g2.10.1.1) <= (70000 :
  Int))) /\ ((Eq (α := List Value) (bCells g.12) (bCells g2.12)) /\ ((Plain (bCells g.12)) /\ ((Eq (α := List Value) (bCells g.13) (bCells g2.13)) /\ ((Plain (bCells g.13))
  /\ ((Eq (α := List Value) (gC enX g.1) (gC enX g2.1)) /\ ((Plain (gC enX g.1)) /\ True))))))) ((v = false) /\ ((Eq (α := List Value) (bCells g.12) (bCells g2.12)) /\
  ((Plain (bCells g.12)) /\ ((Eq (α := List Value) (bCells g.13) (bCells g2.13)) /\ ((Plain (bCells g.13)) /\ ((Eq (α := List Value) (gC enX g.1) (gC enX g2.1)) /\ ((Plain
  (gC enX g.1)) /\ True)))))))) ((v = false) /\ ((Eq (α := List Value) (bCells g.12) (bCells g2.12)) /\ ((Plain (bCells g.12)) /\ ((Eq (α := List Value) (bCells g.13)
  (bCells g2.13)) /\ ((Plain (bCells g.13)) /\ ((Eq (α := List Value) (gC enX g.1) (gC enX g2.1)) /\ ((Plain (gC enX g.1)) /\ True)))))))))) (∀ (y : Unit), ((liS (0 : Int)
  g2.1 = false) → ((v = false) /\ ((Eq (α := List Value) (bCells g.12) (bCells g2.12)) /\ ((Plain (bCells g.12)) /\ ((Eq (α := List Value) (bCells g.13) (bCells g2.13)) /\
  ((Plain (bCells g.13)) /\ ((Eq (α := List Value) (gC enX g.1) (gC enX g2.1)) /\ ((Plain (gC enX g.1)) /\ True)))))))))))))))))))))))))))))))))))) := by kernel_rfl
theorem dec_X : ∀ l : List Rx, decX (gC enX l) = l
  | [] => rfl
  | r :: l => by rw [gC_cons]; show (⟨r.n, r.v, r.h⟩ : Rx) :: decX (gC enX l) = r :: l; rw [dec_X l]
theorem z_lgA (l : List Rx) (p q t : Int) : lgA ⟨gC enX l, true, .cells true⟩ p q t = liA l p q t := by
  have h : lgA = _ := Classical.choose_spec (exZ fun (r : Row) (p q t : Int) => liA (decX r.cells) p q t)
  rw [h]; simp only [dec_X]
theorem xLen (l : List Rx) : (gC enX l).length = l.length * 3 := gC_len (en := enX) (k := 3) (fun _ => rfl) l
theorem xPl (l : List Rx) : Plain (gC enX l) := gC_plain (fun a v hv => by simp only [enX, List.mem_cons, List.not_mem_nil, or_false] at hv; rcases hv with rfl | rfl | rfl <;> rfl) l
theorem L_piece : PieceOk tk.E0 3 (28, pL, specL) := by
  refine piece_loop mixed (calls_envN _) (lok_envN _) lm_none (n := 60) (by kernel_rfl) (fun _ : GL => ((0, 0) : Nat × Int)) (fun g s => s.1 ≤ g.l.length ∧ liS s.2 (g.l.drop s.1) = liS 0 g.l) (fun g s => g.l.length - s.1) (sl := fun _ s => slL s.1 s.2) (rl := fun g _ => rlL g) (fun g hg => ⟨Nat.zero_le _, rfl⟩) (fun g s hg hi => ?_)
  refine (L_round g s _ _).mpr ?_
  obtain ⟨i, n⟩ := s
  obtain ⟨h1, h2⟩ := hi
  simp only at h1 h2
  simp only [ofNat_eq, toNat_cast, Nat.zero_add, Nat.add_zero, Nat.mul_one, List.drop_zero, bCells_len, bCells_drop, bCells_take, bCells_app, bCells_one, bCells_plain, List.length_replicate, List.length_append, List.length_take, List.length_drop, List.take_length, and_true, true_and, and_self, decide_true, List.length_nil, List.length_cons, Nat.sub_zero, dB_mk, dB_ro, List.take_zero, xPl, Int.toNat_natCast]
  refine br_if (fun h => ?_) (fun h => ?_)
  · have hi : i < g.l.length := by omega
    have c0 := gC_get0 (en := enX) (k := 3) (fun _ => rfl) g.l i hi (by omega)
    have c1 := gC_get (en := enX) (k := 3) (fun _ => rfl) g.l i 1 hi (by omega)
    have d0 : cellS (gC enX g.l) (i * 3) = g.l[i].n := by unfold cellS; rw [c0]; rfl
    have d1 : cellS (gC enX g.l) (i * 3 + 1) = g.l[i].v := by unfold cellS; rw [c1]; rfl
    have w := i64_succ (show i < 9223372036854775807 by unfold maxLen at hg; omega)
    rw [List.drop_eq_getElem_cons hi, liS] at h2
    rw [c0, c1, d0, d1, w]
    refine br_dec (by omega) ⟨rfl, br_dec (by omega) ⟨rfl, rfl, rfl, br_if (fun hm => ?_) (fun hm => ?_)⟩⟩
    · rw [if_pos (show stX n g.l[i] > 2000 from hm)] at h2
      exact ⟨(), h2.symm⟩
    · rw [if_neg (show ¬ stX n g.l[i] > 2000 from hm)] at h2
      exact ⟨(i + 1, _), ⟨hi, h2⟩, by simp only; omega, rfl, rfl⟩
  · have : g.l.drop i = [] := List.drop_eq_nil_of_le (by omega)
    rw [this, liS] at h2
    exact ⟨(), h2.symm⟩
theorem L_con (g : GL) (hl : g.l.length ≤ maxLen) : Con Tryz.prog 28 [.agg ⟨agL g⟩] [bRo g.r0, bRo g.r1, gRo enX g.l] (.bool (liA g.l (g.p : Nat) (g.q : Nat) (g.t.data.toList.length : Nat))) [bRo g.r0, bRo g.r1, gRo enX g.l] := by
  refine con_vc (E := tk.E0) mixed (calls_envN _) (lok_envN _) (M := mL) (lm_one L_piece) (L_vc g _) ?_
  simp only [ofNat_eq, toNat_cast, Nat.zero_add, Nat.add_zero, Nat.mul_one, List.drop_zero, bCells_len, bCells_drop, bCells_take, bCells_app, bCells_one, bCells_plain, List.length_replicate, List.length_append, List.length_take, List.length_drop, List.take_length, and_true, true_and, and_self, decide_true, List.length_nil, List.length_cons, Nat.sub_zero, dB_mk, dB_ro, List.take_zero, xPl]
  refine ⟨g, hl, rfl, rfl, rfl, rfl, rfl, rfl, rfl, rfl, rfl, rfl, rfl, rfl, rfl, rfl, fun side => br_intro (fun _ _ h => ?_) (fun _ _ h => ?_)⟩
  · unfold liA
    rw [h]
    refine br_if (fun a => br_if (fun b => ⟨by simp [a, b], rfl, rfl, rfl⟩) (fun b => ⟨by simp [b], rfl, rfl, rfl⟩)) (fun a => ⟨by simp [a], rfl, rfl, rfl⟩)
  · unfold liA
    rw [h]
    exact ⟨rfl, rfl, rfl, rfl⟩
theorem eLi_ok : EntOk Tryz.prog eLi := entC_ok (by
  intro a rows p v news h hp
  split at h <;> simp only [Option.some.injEq, Prod.mk.injEq, reduceCtorEq] at h
  obtain ⟨rfl, rfl, rfl⟩ := h
  rename_i a b c d e f p q n t k r0 r1 r2
  obtain ⟨⟨x0, rfl⟩, ⟨x1, rfl⟩, l, rfl, rfl, hl⟩ := hp
  have := L_con ⟨l, a, b, c, d, e, f, p, q, t, k, x0, x1⟩ hl
  unfold gRo at this ⊢
  rw [z_lgA]
  exact this)
end Go.Proofs.YtcallecdjebojaaGreat.cs
