/- GuardFirst: what is held against what. -/
import Derived.Test.YtekijelmdajhlaaSz9
import Derived.Test.YtekijelmdajhlaaRows
import Derived.Test.YtekijelmdajhlaaLgfB
set_option linter.unusedSimpArgs false
set_option linter.unusedVariables false
namespace Go.Proofs.Ytekijelmdajhlaa.gp
open Go Go.Ev Go.Sy Go.RowKit Go.Proofs.Ytekijelmdajhlaa.gl Go.Proofs.Ytekijelmdajhlaa.tk Go.Proofs.Ytekijelmdajhlaa.ic Go.Proofs.Ytekijelmdajhlaa.gm
structure GH where
  rr : List (List Ac)
  w : List Int
  pl : Int
  h : Int
  c : Int
  p : Int
  z : List Int
  ok : Bool
  eh : Int
  ec : Int
  ep : Int
  k : Int
  fc : Int
  fp : Int
  is : Bool
def pH : List Nat := [1, 1, 1, 1, 1, 1, 1, 1, 1]
def slH (g : GH) : List (Nat × Value) := [(3, .slice (some ⟨4, 0, none⟩) g.w.length 1), (4, .pointer (some ⟨2, 0, none⟩)), (5, .int .i64 g.pl), (6, .pointer (some ⟨3, 0, none⟩)), (11, .pointer (some ⟨6, 0, none⟩)), (12, .pointer (some ⟨7, 0, none⟩)), (13, .pointer (some ⟨8, 0, none⟩)), (14, .pointer (some ⟨9, 0, none⟩)), (15, .bool g.ok)]
noncomputable def rlH (g : GH) : List (Nat × Row) := [(0, gRo enR g.rr), (2, ⟨[.slice (some ⟨5, 0, none⟩) g.z.length 1], false, .cells false⟩), (3, ⟨[.int .i64 g.h, .int .i64 g.c, .int .i64 g.p], false, .cells false⟩), (4, iOwn .i64 g.w), (5, iOwn .i64 g.z), (6, ⟨[.int .i64 g.k], false, .cells false⟩), (7, ⟨[.int .i64 g.fc, .int .i64 g.fp], false, .cells false⟩), (8, ⟨[.bool g.is], false, .cells false⟩), (9, ⟨[.int .i64 g.eh, .int .i64 g.ec, .int .i64 g.ep], false, .cells false⟩)]
noncomputable def wsH (g : GH) : List (Gate Unit) := [⟨.ret, fun _ => True, fun _ => [(2, .bool true)], fun _ => [(0, gRo enR g.rr)], 10⟩]
def PH (g : GH) : Prop := g.ok = true ∧ g.z = g.w ∧ g.w.length ≤ 1000 ∧ ((g.h = 2 ∧ g.eh = g.h ∧ g.ec = g.c ∧ g.ep = g.p) ∨ (¬ g.h = 2 ∧ g.eh = 0 ∧ g.k = g.pl ∧ g.is = decide (g.pl ≥ 0) ∧ ((g.pl < 0 ∧ g.fc = 0 ∧ g.fp = 0) ∨ (0 ≤ g.pl ∧ g.fc = g.c ∧ g.fp = g.p))))
noncomputable def specH : Sy.Spec := specOf 1 10 130 PH slH rlH wsH
theorem H_vc (g : GH) : mev EFl noM 60 5 pH false (codeOf Try.prog 5 pH) ⟨mkOv (slH g), 130, []⟩ none ⟨mkR (rlH g), 10⟩ (Sy.endsIn 1 130 (wsH g)) =
  (br (g.4 == (2 : Int)) (br (g.8) (br (g.9 == g.4 && (g.10 == g.5 && (g.11 == g.6 && true) && true)) (((((0 + List.length g.7 * 1 <= List.length (iCells IntKind.i64 g.7) /\
  Plain (List.take (List.length g.7 * 1) (List.drop 0 (iCells IntKind.i64 g.7)))) /\ ((0 + List.length g.2 * 1 <= List.length (iCells IntKind.i64 g.2) /\ Plain (List.take
  (List.length g.2 * 1) (List.drop 0 (iCells IntKind.i64 g.2)))) /\ True)) /\ ((True /\ (True /\ True)) /\ (True /\ (IsQ (Row.mk (List.take (List.length g.7 * 1) (List.drop
  0 (iCells IntKind.i64 g.7))) true (Ob.cells true)) (List.length g.7) /\ IsQ (Row.mk (List.take (List.length g.2 * 1) (List.drop 0 (iCells IntKind.i64 g.2))) true (Ob.cells
  true)) (List.length g.2)))))) /\ (br (sameI (Row.mk (List.take (List.length g.7 * 1) (List.drop 0 (iCells IntKind.i64 g.7))) true (Ob.cells true)) (Row.mk (List.take
  (List.length g.2 * 1) (List.drop 0 (iCells IntKind.i64 g.2))) true (Ob.cells true))) (((True /\ (True /\ (True /\ True)))) /\ (∃ y : Unit, ((True) /\ ((true = true) /\
  ((Eq (α := List Value) (gC enR g.1) (gC enR g.1)) /\ ((Plain (gC enR g.1)) /\ True)))))) (∃ y : Unit, ((True) /\ ((true = false) /\ ((Eq (α := List Value) (gC enR g.1) (gC
  enR g.1)) /\ ((Plain (gC enR g.1)) /\ True))))))) (∃ y : Unit, ((True) /\ ((true = false) /\ ((Eq (α := List Value) (gC enR g.1) (gC enR g.1)) /\ ((Plain (gC enR g.1)) /\
  True)))))) (∃ y : Unit, ((True) /\ ((true = false) /\ ((Eq (α := List Value) (gC enR g.1) (gC enR g.1)) /\ ((Plain (gC enR g.1)) /\ True)))))) (br (g.8) (br (g.9 == (0 :
  Int)) (br (g.12 == g.3) (br (g.15 == decide (g.3 ≥ (0 : Int))) (br (decide (g.3 < (0 : Int))) (br (g.13 == (0 : Int) && (g.14 == (0 : Int) && true)) (((((0 + List.length
  g.7 * 1 <= List.length (iCells IntKind.i64 g.7) /\ Plain (List.take (List.length g.7 * 1) (List.drop 0 (iCells IntKind.i64 g.7)))) /\ ((0 + List.length g.2 * 1 <=
  List.length (iCells IntKind.i64 g.2) /\ Plain (List.take (List.length g.2 * 1) (List.drop 0 (iCells IntKind.i64 g.2)))) /\ True)) /\ ((True /\ (True /\ True)) /\ (True /\
  (IsQ (Row.mk (List.take (List.length g.7 * 1) (List.drop 0 (iCells IntKind.i64 g.7))) true (Ob.cells true)) (List.length g.7) /\ IsQ (Row.mk (List.take (List.length g.2 *
  1) (List.drop 0 (iCells IntKind.i64 g.2))) true (Ob.cells true)) (List.length g.2)))))) /\ (br (sameI (Row.mk (List.take (List.length g.7 * 1) (List.drop 0 (iCells
  IntKind.i64 g.7))) true (Ob.cells true)) (Row.mk (List.take (List.length g.2 * 1) (List.drop 0 (iCells IntKind.i64 g.2))) true (Ob.cells true))) (((True /\ (True /\ (True
  /\ True)))) /\ (∃ y : Unit, ((True) /\ ((true = true) /\ ((Eq (α := List Value) (gC enR g.1) (gC enR g.1)) /\ ((Plain (gC enR g.1)) /\ True)))))) (∃ y : Unit, ((True) /\
  ((true = false) /\ ((Eq (α := List Value) (gC enR g.1) (gC enR g.1)) /\ ((Plain (gC enR g.1)) /\ True))))))) (br (decide (g.3 ≥ (0 : Int))) (br (g.13 == g.5 && (g.14 ==
  g.6 && true)) (((((0 + List.length g.7 * 1 <= List.length (iCells IntKind.i64 g.7) /\ Plain (List.take (List.length g.7 * 1) (List.drop 0 (iCells IntKind.i64 g.7)))) /\
  ((0 + List.length g.2 * 1 <= List.length (iCells IntKind.i64 g.2) /\ Plain (List.take (List.length g.2 * 1) (List.drop 0 (iCells IntKind.i64 g.2)))) /\ True)) /\ ((True /\
  (True /\ True)) /\ (True /\ (IsQ (Row.mk (List.take (List.length g.7 * 1) (List.drop 0 (iCells IntKind.i64 g.7))) true (Ob.cells true)) (List.length g.7) /\ IsQ (Row.mk
  (List.take (List.length g.2 * 1) (List.drop 0 (iCells IntKind.i64 g.2))) true (Ob.cells true)) (List.length g.2)))))) /\ (br (sameI (Row.mk (List.take (List.length g.7 *
  1) (List.drop 0 (iCells IntKind.i64 g.7))) true (Ob.cells true)) (Row.mk (List.take (List.length g.2 * 1) (List.drop 0 (iCells IntKind.i64 g.2))) true (Ob.cells true)))
  (((True /\ (True /\ (True /\ True)))) /\ (∃ y : Unit, ((True) /\ ((true = true) /\ ((Eq (α := List Value) (gC enR g.1) (gC enR g.1)) /\ ((Plain (gC enR g.1)) /\ True))))))
  (∃ y : Unit, ((True) /\ ((true = false) /\ ((Eq (α := List Value) (gC enR g.1) (gC enR g.1)) /\ ((Plain (gC enR g.1)) /\ True))))))) (∃ y : Unit, ((True) /\ ((true =
  false) /\ ((Eq (α := List Value) (gC enR g.1) (gC enR g.1)) /\ ((Plain (gC enR g.1)) /\ True)))))) (∃ y : Unit, ((True) /\ ((true = false) /\ ((Eq (α := List Value) (gC
  enR g.1) (gC enR g.1)) /\ ((Plain (gC enR g.1)) /\ True))))))) (br (decide (g.3 ≥ (0 : Int))) (br (g.13 == g.5 && (g.14 == g.6 && true)) (((((0 + List.length g.7 * 1 <=
  List.length (iCells IntKind.i64 g.7) /\ Plain (List.take (List.length g.7 * 1) (List.drop 0 (iCells IntKind.i64 g.7)))) /\ ((0 + List.length g.2 * 1 <= List.length (iCells
  IntKind.i64 g.2) /\ Plain (List.take (List.length g.2 * 1) (List.drop 0 (iCells IntKind.i64 g.2)))) /\ True)) /\ ((True /\ (True /\ True)) /\ (True /\ (IsQ (Row.mk
  (List.take (List.length g.7 * 1) (List.drop 0 (iCells IntKind.i64 g.7))) true (Ob.cells true)) (List.length g.7) /\ IsQ (Row.mk (List.take (List.length g.2 * 1) (List.drop
  0 (iCells IntKind.i64 g.2))) true (Ob.cells true)) (List.length g.2)))))) /\ (br (sameI (Row.mk (List.take (List.length g.7 * 1) (List.drop 0 (iCells IntKind.i64 g.7)))
  true (Ob.cells true)) (Row.mk (List.take (List.length g.2 * 1) (List.drop 0 (iCells IntKind.i64 g.2))) true (Ob.cells true))) (((True /\ (True /\ (True /\ True)))) /\ (∃ y
  : Unit, ((True) /\ ((true = true) /\ ((Eq (α := List Value) (gC enR g.1) (gC enR g.1)) /\ ((Plain (gC enR g.1)) /\ True)))))) (∃ y : Unit, ((True) /\ ((true = false) /\
  ((Eq (α := List Value) (gC enR g.1) (gC enR g.1)) /\ ((Plain (gC enR g.1)) /\ True))))))) (∃ y : Unit, ((True) /\ ((true = false) /\ ((Eq (α := List Value) (gC enR g.1)
  (gC enR g.1)) /\ ((Plain (gC enR g.1)) /\ True)))))) (∃ y : Unit, ((True) /\ ((true = false) /\ ((Eq (α := List Value) (gC enR g.1) (gC enR g.1)) /\ ((Plain (gC enR g.1))
  /\ True))))))) (∃ y : Unit, ((True) /\ ((true = false) /\ ((Eq (α := List Value) (gC enR g.1) (gC enR g.1)) /\ ((Plain (gC enR g.1)) /\ True)))))) (∃ y : Unit, ((True) /\
  ((true = false) /\ ((Eq (α := List Value) (gC enR g.1) (gC enR g.1)) /\ ((Plain (gC enR g.1)) /\ True)))))) (∃ y : Unit, ((True) /\ ((true = false) /\ ((Eq (α := List
  Value) (gC enR g.1) (gC enR g.1)) /\ ((Plain (gC enR g.1)) /\ True)))))) (∃ y : Unit, ((True) /\ ((true = false) /\ ((Eq (α := List Value) (gC enR g.1) (gC enR g.1)) /\
  ((Plain (gC enR g.1)) /\ True))))))) := by kernel_rfl
theorem H_piece : PieceOk EFl 1 (5, pH, specH) := by
  refine piece_code mixed (calls_envTd tFl_ok) (lok_envTd _ _ _) lm_none (n := 60) (fun g hg => (H_vc g).mpr ?_)
  obtain ⟨rr, w, pl, h, c, p, z, ok, eh, ec, ep, k, fc, fp, is⟩ := g
  obtain ⟨g1, g2, g3, g4⟩ := hg
  simp only at g1 g2 g3 g4
  subst g1 g2
  have e5 : ∀ x : List Int, (iCells .i64 x).take x.length = iCells .i64 x := fun x => List.take_of_length_le (by rw [iCells_len]; omega)
  have q : IsQ ⟨iCells .i64 z, true, .cells true⟩ z.length := ⟨_, rfl, rfl, by unfold maxLen; omega⟩
  have e : ∃ _y : Unit, True := ⟨(), trivial⟩
  simp only [ofNat_eq, toNat_cast, Nat.zero_add, Nat.add_zero, Nat.mul_one, List.drop_zero, bCells_len, bCells_drop, bCells_take, bCells_app, bCells_one, bCells_plain, List.length_replicate, List.length_append, List.length_take, List.length_drop, List.take_length, and_true, true_and, and_self, decide_true, List.length_nil, List.length_cons, Nat.sub_zero, dB_mk, dB_ro, List.take_zero, e5, iCells_plain, iCells_len, z_same, rPl, q, e, Nat.le_refl]
  clear e5 q
  rcases g4 with ⟨rfl, rfl, rfl, rfl⟩ | ⟨h2, rfl, rfl, hs, ⟨b1, rfl, rfl⟩ | ⟨b1, rfl, rfl⟩⟩
  · simp [br_iff]
  · have b2 : ¬ k ≥ 0 := by omega
    simp [br_iff, h2, hs, b1, b2]
  · have b2 : ¬ k < 0 := by omega
    simp [br_iff, h2, hs, b1, b2]
end Go.Proofs.Ytekijelmdajhlaa.gp
