/- What texts of cache-control say. -/
import Derived.Test.YtdbeebannnofpaaSz9
import Derived.Test.YtdbeebannnofpaaRows
import Derived.Test.YtdbeebannnofpaaLctOf
import Derived.Test.YtdbeebannnofpaaLsay16
set_option linter.unusedSimpArgs false
set_option linter.unusedVariables false
namespace Go.Proofs.Ytdbeebannnofpaa.tk
open Go Go.Ev Go.Sy Go.RowKit Go.Proofs.Ytdbeebannnofpaa.gl
def cO6 : FuncId → List Value → List Row → Option (Prop × Value × List Row)
  | 14, [.slice (some ⟨0, 0, none⟩) n 2], [r0] => some (IsF r0 n ∧ n ≤ maxLen ∧ ctB r0 ≤ 16777000, .agg ⟨enC (ctR r0)⟩, [])
  | _, _, _ => none
noncomputable abbrev EO6 : Env := envC Try.prog cO6 (fun f => Nat.beq f 14)
def pO6 : List Nat := [0, 1, 0, 1, 1]
def ofF (l : List (List UInt8)) : List Fl := l.map fun v => ⟨sCC, v⟩
def slO6 (l : List (List UInt8)) (i : Nat) : List (Nat × Value) := [(0, .slice (some ⟨0, 0, none⟩) l.length 1), (2, .pointer (some ⟨1, 0, none⟩)), (3, .slice (some ⟨2, 0, none⟩) i 2), (4, .int .i64 (i : Nat))]
def rlO6 (l : List (List UInt8)) (i : Nat) : List (Nat × Row) := [(0, gRo enS l), (1, ctRow cz), (2, gOwn enF (ofF (l.take i)))]
def wsO6 (l : List (List UInt8)) : List (Gate Unit) := [⟨.exit 0, fun _ => True, fun _ => [(2, .pointer (some ⟨1, 0, none⟩)), (3, .slice (some ⟨2, 0, none⟩) l.length 2)], fun _ => [(0, gRo enS l), (1, ctRow cz), (2, gOwn enF (ofF l))], 3⟩]
def specO6 : Sy.Spec := specOf 1 3 21 (fun l : List (List UInt8) => l.length ≤ 1048576) (fun l => slO6 l 0) (fun l => rlO6 l 0) wsO6
def mO6 := mOf [(10, pO6, specO6)]
theorem O6_round (l : List (List UInt8)) (i : Nat) (Inv : Nat → Prop) (m : Nat → Nat) : mev EO6 noM 60 10 (0 :: pO6) false (codeOf Try.prog 10 (0 :: pO6)) ⟨mkOv (slO6 l i), 21, []⟩ none ⟨mkR (rlO6 l i), 3⟩ (roundK 1 3 21 Inv m (slO6 l) (rlO6 l) (wsO6 l) i) =
  (br (decide ((↑i : Int) < Int.ofNat (List.length l)))
   (br (decide ((0 : Int) ≤ (↑i : Int) ∧ (↑i : Int) < (↑(List.length l) : Int)))
    ((Eq (α := Option Value) ((gC enS l)[(0 : Nat) + Int.toNat (↑i : Int) * (1 : Nat)]?) (some (Value.string (cellS (gC enS l) ((0 : Nat) + Int.toNat (↑i : Int) * (1 : Nat)))))) ∧
    (br (decide (i + (1 : Nat) ≤ (16777216 : Nat)))
     (br (decide ((0 : Nat) + i * (2 : Nat) ≤ List.length (gC enF (ofF (List.take i l)))))
      (∃ j : Nat, ((Inv j) ∧
      ((m j < m i) ∧
      (((0 : Nat) = (0 : Nat)) ∧
      ((List.length l = List.length l) ∧
      (((0 : Nat) = (0 : Nat)) ∧
      (((0 : Nat) = (0 : Nat)) ∧
      ((j = i + (1 : Nat)) ∧
      (((↑j : Int) = IntKind.wrap IntKind.i64 ((↑i : Int) + (1 : Int))) ∧
      ((Eq (α := List Value) (gC enS l) (gC enS l)) ∧
      ((Plain (gC enS l)) ∧
      ((false = false) ∧
      ((false = false) ∧
      ((false = false) ∧
      ((false = false) ∧
      ((false = false) ∧
      ((false = false) ∧
      (((0 : Int) = (0 : Int)) ∧
      (((0 : Int) = (0 : Int)) ∧
      (((0 : Int) = (0 : Int)) ∧
      (((0 : Int) = (0 : Int)) ∧
      ((Eq (α := List Value) (gC enF (ofF (List.take j l))) (List.take (i * (2 : Nat)) (List.drop (0 : Nat) (gC enF (ofF (List.take i l)))) ++ [Value.string (ByteArray.mk #[(99 : UInt8), (97 : UInt8), (99 : UInt8), (104 : UInt8), (101 : UInt8), (45 : UInt8), (99 : UInt8), (111 : UInt8), (110 : UInt8), (116 : UInt8), (114 : UInt8), (111 : UInt8), (108 : UInt8)]), Value.string (cellS (gC enS l) ((0 : Nat) + Int.toNat (↑i : Int) * (1 : Nat)))])) ∧
      ((Plain (gC enF (ofF (List.take j l)))) ∧
      True)))))))))))))))))))))))
      False)
     False))
    False)
   (∃ y : Unit, ((True) ∧
   (((0 : Nat) = (0 : Nat)) ∧
   (((0 : Nat) = (0 : Nat)) ∧
   ((List.length l = i) ∧
   ((Eq (α := List Value) (gC enS l) (gC enS l)) ∧
   ((Plain (gC enS l)) ∧
   ((false = false) ∧
   ((false = false) ∧
   ((false = false) ∧
   ((false = false) ∧
   ((false = false) ∧
   ((false = false) ∧
   (((0 : Int) = (0 : Int)) ∧
   (((0 : Int) = (0 : Int)) ∧
   (((0 : Int) = (0 : Int)) ∧
   (((0 : Int) = (0 : Int)) ∧
   ((Eq (α := List Value) (gC enF (ofF l)) (gC enF (ofF (List.take i l)))) ∧
   ((Plain (gC enF (ofF l))) ∧
   True)))))))))))))))))))) := by kernel_rfl
theorem O6_vc (l : List (List UInt8)) (c : Ct) : mcall EO6 mO6 60 10 [.slice (some ⟨0, 0, none⟩) l.length 1] ⟨mkR (nums 0 [gRo enS l]), 1⟩ (retIs 1 (ctV c) [gRo enS l]) =
  (∃ g : List (List UInt8), ((List.length g ≤ (1048576 : Nat)) ∧
  (((0 : Nat) = (0 : Nat)) ∧
  ((List.length g = List.length l) ∧
  (((0 : Nat) = (0 : Nat)) ∧
  (((0 : Nat) = (0 : Nat)) ∧
  (((0 : Int) = (0 : Int)) ∧
  ((Eq (α := List Value) (gC enS g) (gC enS l)) ∧
  ((Plain (gC enS g)) ∧
  ((false = false) ∧
  ((false = false) ∧
  ((false = false) ∧
  ((false = false) ∧
  ((false = false) ∧
  ((false = false) ∧
  (((0 : Int) = (0 : Int)) ∧
  (((0 : Int) = (0 : Int)) ∧
  (((0 : Int) = (0 : Int)) ∧
  (((0 : Int) = (0 : Int)) ∧
  ((Eq (α := List Value) ([]) ([])) ∧
  (∀ (y : Unit), ((True) →
  ((((((0 : Nat) + List.length g * (2 : Nat) ≤ List.length (gC enF (ofF g)) ∧ Plain (List.take (List.length g * (2 : Nat)) (List.drop (0 : Nat) (gC enF (ofF g))))) ∧ True) ∧ (True ∧ (IsF (Row.mk (List.take (List.length g * (2 : Nat)) (List.drop (0 : Nat) (gC enF (ofF g)))) true (Ob.cells true)) (List.length g) ∧ (List.length g ≤ (9223372036854775807 : Nat) ∧ ctB (Row.mk (List.take (List.length g * (2 : Nat)) (List.drop (0 : Nat) (gC enF (ofF g)))) true (Ob.cells true)) ≤ (16777000 : Nat)))))) ∧
  ((c.1 = (ctR (Row.mk (List.take (List.length g * (2 : Nat)) (List.drop (0 : Nat) (gC enF (ofF g)))) true (Ob.cells true))).1) ∧
  ((c.2 = (ctR (Row.mk (List.take (List.length g * (2 : Nat)) (List.drop (0 : Nat) (gC enF (ofF g)))) true (Ob.cells true))).2) ∧
  ((c.3 = (ctR (Row.mk (List.take (List.length g * (2 : Nat)) (List.drop (0 : Nat) (gC enF (ofF g)))) true (Ob.cells true))).3) ∧
  ((c.4 = (ctR (Row.mk (List.take (List.length g * (2 : Nat)) (List.drop (0 : Nat) (gC enF (ofF g)))) true (Ob.cells true))).4) ∧
  ((c.5 = (ctR (Row.mk (List.take (List.length g * (2 : Nat)) (List.drop (0 : Nat) (gC enF (ofF g)))) true (Ob.cells true))).5) ∧
  ((c.6 = (ctR (Row.mk (List.take (List.length g * (2 : Nat)) (List.drop (0 : Nat) (gC enF (ofF g)))) true (Ob.cells true))).6) ∧
  ((c.7 = (ctR (Row.mk (List.take (List.length g * (2 : Nat)) (List.drop (0 : Nat) (gC enF (ofF g)))) true (Ob.cells true))).7) ∧
  ((c.8 = (ctR (Row.mk (List.take (List.length g * (2 : Nat)) (List.drop (0 : Nat) (gC enF (ofF g)))) true (Ob.cells true))).8) ∧
  ((c.9 = (ctR (Row.mk (List.take (List.length g * (2 : Nat)) (List.drop (0 : Nat) (gC enF (ofF g)))) true (Ob.cells true))).9) ∧
  ((c.10 = (ctR (Row.mk (List.take (List.length g * (2 : Nat)) (List.drop (0 : Nat) (gC enF (ofF g)))) true (Ob.cells true))).10) ∧
  ((Eq (α := List Value) (gC enS l) (gC enS g)) ∧
  ((Plain (gC enS l)) ∧
  True))))))))))))))))))))))))))))))))))) := by kernel_rfl
theorem cO6_ok : ∀ f a rows p v news, cO6 f a rows = some (p, v, news) → p → Con Try.prog f a rows v (rows ++ news) := by
  intro f a rows p v news h hp
  have e : ∀ l, decF (gRo enF l).cells = l := fun l => decF_gC l
  unfold cO6 at h
  split at h <;> simp only [Option.some.injEq, Prod.mk.injEq, reduceCtorEq] at h <;> obtain ⟨rfl, rfl, rfl⟩ := h
  · obtain ⟨⟨l, rfl, rfl⟩, h1, h2⟩ := hp
    simp only [ctB, ctR, e, List.append_nil] at h2 ⊢
    exact Co_con l h1 h2
theorem O6_piece : PieceOk EO6 1 (10, pO6, specO6) := by
  refine piece_loop mixed (calls_envC cO6_ok) (lok_envC _ _ _) lm_none (n := 60) (by kernel_rfl) (fun l : List (List UInt8) => (0 : Nat)) (fun l i => i ≤ l.length) (fun l i => l.length - i) (sl := slO6) (rl := rlO6) (fun l hl => Nat.zero_le _) (fun l i hg hi => ?_)
  refine (O6_round l i _ _).mpr ?_
  have e4 : (⟨#[99, 97, 99, 104, 101, 45, 99, 111, 110, 116, 114, 111, 108]⟩ : ByteArray) = bs sCC := rfl
  have hof : ∀ l : List (List UInt8), (ofF l).length = l.length := fun l => by unfold ofF; simp
  simp only [ofNat_eq, toNat_cast, Nat.zero_add, Nat.add_zero, Nat.mul_one, List.drop_zero, bCells_len, bCells_drop, bCells_take, bCells_app, bCells_one, bCells_plain, List.length_replicate, List.length_append, List.length_take, List.length_drop, List.take_length, and_true, true_and, and_self, decide_true, List.length_nil, List.length_cons, Nat.sub_zero, dB_mk, dB_ro, List.take_zero, sPl, sLen, fPl, fLen, e4, hof]
  refine br_if (fun h => br_dec (by omega) ?_) (fun h => ?_)
  · have hi2 : i < l.length := by omega
    obtain ⟨c1, c2⟩ := sGet l i hi2
    have w := i64_succ (show i < 9223372036854775807 by omega)
    have hlen : (l.take i).length = i := by simp; omega
    have t1 : List.take (i * 2) (gC enF (ofF (l.take i))) = gC enF (ofF (l.take i)) := by rw [show i = (ofF (l.take i)).length by rw [hof, hlen]]; simp only [hof, hlen]; have := fTake (ofF (l.take i)); rw [hof, hlen] at this; exact this
    rw [c1, c2]
    refine ⟨rfl, br_dec (by omega) (br_dec (by omega) ⟨i + 1, by omega, by omega, rfl, w.symm, ?_⟩)⟩
    rw [t1, List.take_succ_eq_append_getElem hi2, show [Value.string (bs sCC), Value.string (bs l[i])] = gC enF (ofF [l[i]]) from rfl, gC_app]
    unfold ofF; rw [List.map_append]
  · have : i = l.length := by omega
    subst this
    refine ⟨(), rfl, ?_⟩
    rw [List.take_length]
theorem O6_con (l : List (List UInt8)) (hl : l.length ≤ 1048576) (hb : (allL (ofF l) sCC).length ≤ 16777000) : Con Try.prog 10 [.slice (some ⟨0, 0, none⟩) l.length 1] [gRo enS l] (ctV (ctlL (ofF l))) [gRo enS l] := by
  refine con_vc (E := EO6) mixed (calls_envC cO6_ok) (lok_envC _ _ _) (M := mO6) (lm_one O6_piece) (O6_vc l _) ?_
  have hof : ∀ l : List (List UInt8), (ofF l).length = l.length := fun l => by unfold ofF; simp
  have ht : List.take (l.length * 2) (gC enF (ofF l)) = gC enF (ofF l) := by have := fTake (ofF l); rw [hof] at this; exact this
  have r5 : ∀ l b o, ctR ⟨gC enF l, b, o⟩ = ctlL l := fun l b o => by unfold ctR; simp only; rw [decF_gC]
  have r6 : ∀ l b o, ctB ⟨gC enF l, b, o⟩ = (allL l sCC).length := fun l b o => by unfold ctB; simp only; rw [decF_gC]
  simp only [ofNat_eq, toNat_cast, Nat.zero_add, Nat.add_zero, Nat.mul_one, List.drop_zero, bCells_len, bCells_drop, bCells_take, bCells_app, bCells_one, bCells_plain, List.length_replicate, List.length_append, List.length_take, List.length_drop, List.take_length, and_true, true_and, and_self, decide_true, List.length_nil, List.length_cons, Nat.sub_zero, dB_mk, dB_ro, List.take_zero, sPl, sLen, fPl, fLen]
  refine ⟨l, hl, rfl, rfl, fun _ _ => ?_⟩
  rw [ht]
  simp only [r5, r6, hof]
  refine ⟨⟨⟨Nat.le_refl _, gC_plain enF_p _⟩, isF_mk _ _ (hof l).symm, by omega, hb⟩, ?_⟩
  simp
end Go.Proofs.Ytdbeebannnofpaa.tk
