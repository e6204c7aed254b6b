/- ProxyClock: the clock is the greatest reading so far. -/
import Derived.Test.YthbibcgghdodaaaGreatDoorSz9
import Derived.Test.YthbibcgghdodaaaGreatDoorRows
import Derived.Test.YthbibcgghdodaaaGreatDoorLlawPrc
import Derived.Test.YthbibcgghdodaaaGreatDoorLints
set_option maxRecDepth 20000
set_option linter.unusedSimpArgs false
set_option linter.unusedVariables false
namespace Go.Proofs.YthbibcgghdodaaaGreatDoor.pk
open Go Go.Ev Go.Sy Go.RowKit Go.Proofs.YthbibcgghdodaaaGreatDoor.gl Go.Proofs.YthbibcgghdodaaaGreatDoor.tk Go.Proofs.YthbibcgghdodaaaGreatDoor.ic
noncomputable def eRunsP : EntM := entC 3 fun a r => match a, r with
  | [], [] => some (True, .bool true, [])
  | _, _ => none
noncomputable def tPk : List EntM := [eRunsP]
noncomputable abbrev EPk : Env := envTc Tryz.prog tPk
def pK : List Nat := [0, 1, 0, 1, 1, 1, 1]
def pRw (w : Int) : Row := ⟨[.int .i64 10000, .float .f64 4591870180066957722, .int .i64 2, .int .i64 65535, .int .i64 65536, .int .i64 4, .int .i64 1, .int .i64 w, .pointer (some ⟨2, 0, none⟩), .pointer none, .pointer none, .pointer none, .pointer none, .pointer none, .pointer none, .pointer none, .pointer none, .pointer none, .pointer none, .pointer none, .pointer none, .pointer none, .pointer none, .pointer none, .pointer none, .slice none 0 0, .slice none 0 0], false, .cells false⟩
structure StK where
  w : Int
  i : Nat
def slK (g : List Int) (s : StK) : List (Nat × Value) := [(0, .slice (some ⟨0, 0, none⟩) g.length 1), (3, .pointer (some ⟨1, 0, none⟩)), (5, .int .i64 s.w), (6, .int .i64 (s.i : Nat))]
def rlK (g : List Int) (s : StK) : List (Nat × Row) := [(0, iRo .i64 g), (1, pRw s.w)]
def wsK (g : List Int) : List (Gate Unit) := [⟨.exit 0, fun _ => True, fun _ => [], fun _ => [(0, iRo .i64 g)], 3⟩]
def specK : Sy.Spec := specOf 1 3 49 (fun g : List Int => g.length ≤ maxLen) (fun g => slK g ⟨0, 0⟩) (fun g => rlK g ⟨0, 0⟩) wsK
def mK := mOf [(5, pK, specK)]
theorem K_round (g : List Int) (w : Int) (i : Nat) (Inv : StK → Prop) (m : StK → Nat) : mev EPk noM 300 5 (0 :: pK) false (codeOf Tryz.prog 5 (0 :: pK)) ⟨mkOv (slK g ⟨w, i⟩), 49, []⟩ none ⟨mkR (rlK g ⟨w, i⟩), 3⟩ (roundK 1 3 49 Inv m (slK g) (rlK g) (wsK g) ⟨w, i⟩) =
  (br (decide ((↑i : Int) < Int.ofNat (List.length g))) (br (decide ((↑i : Int) < (50 : Int))) (br (decide ((0 : Int) <= (↑i : Int) /\ (↑i : Int) < (↑(List.length g) :
  Int))) ((Eq (α := Option Value) ((iCells IntKind.i64 g)[0 + Int.toNat (↑i : Int) * 1]?) (some (Value.int IntKind.i64 (cellI (iCells IntKind.i64 g) (0 + Int.toNat (↑i :
  Int) * 1))))) /\ (br (veq 20 (Value.int IntKind.i64 w) (Value.int IntKind.i64 w)) (br (veq 20 (Value.int IntKind.i64 (cellI (iCells IntKind.i64 g) (0 + Int.toNat (↑i :
  Int) * 1))) (Value.int IntKind.i64 (cellI (iCells IntKind.i64 g) (0 + Int.toNat (↑i : Int) * 1)))) (br (decide ((0 : Int) <= (↑i : Int) /\ (↑i : Int) < (↑(List.length g) :
  Int))) ((Eq (α := Option Value) ((iCells IntKind.i64 g)[0 + Int.toNat (↑i : Int) * 1]?) (some (Value.int IntKind.i64 (cellI (iCells IntKind.i64 g) (0 + Int.toNat (↑i :
  Int) * 1))))) /\ (br ((if (2147483647 : Int) < if cellI (iCells IntKind.i64 g) (0 + Int.toNat (↑i : Int) * 1) > w then cellI (iCells IntKind.i64 g) (0 + Int.toNat (↑i :
  Int) * 1) else w then (2147483647 : Int) else if cellI (iCells IntKind.i64 g) (0 + Int.toNat (↑i : Int) * 1) > w then cellI (iCells IntKind.i64 g) (0 + Int.toNat (↑i :
  Int) * 1) else w) != if (if (2147483647 : Int) < cellI (iCells IntKind.i64 g) (0 + Int.toNat (↑i : Int) * 1) then (2147483647 : Int) else cellI (iCells IntKind.i64 g) (0 +
  Int.toNat (↑i : Int) * 1)) > w then if (2147483647 : Int) < cellI (iCells IntKind.i64 g) (0 + Int.toNat (↑i : Int) * 1) then (2147483647 : Int) else cellI (iCells
  IntKind.i64 g) (0 + Int.toNat (↑i : Int) * 1) else w) False (∃ j : StK, ((Inv j) /\ ((m j < m (StK.mk w i)) /\ ((0 = 0) /\ ((List.length g = List.length g) /\ ((0 = 0) /\
  ((j.1 = if (if (2147483647 : Int) < cellI (iCells IntKind.i64 g) (0 + Int.toNat (↑i : Int) * 1) then (2147483647 : Int) else cellI (iCells IntKind.i64 g) (0 + Int.toNat
  (↑i : Int) * 1)) > w then if (2147483647 : Int) < cellI (iCells IntKind.i64 g) (0 + Int.toNat (↑i : Int) * 1) then (2147483647 : Int) else cellI (iCells IntKind.i64 g) (0
  + Int.toNat (↑i : Int) * 1) else w) /\ (((↑j.2 : Int) = IntKind.wrap IntKind.i64 ((↑i : Int) + (1 : Int))) /\ ((Eq (α := List Value) (iCells IntKind.i64 g) (iCells
  IntKind.i64 g)) /\ ((Plain (iCells IntKind.i64 g)) /\ (((10000 : Int) = (10000 : Int)) /\ ((4591870180066957722 = 4591870180066957722) /\ (((2 : Int) = (2 : Int)) /\
  (((65535 : Int) = (65535 : Int)) /\ (((65536 : Int) = (65536 : Int)) /\ (((4 : Int) = (4 : Int)) /\ (((1 : Int) = (1 : Int)) /\ ((j.1 = if (2147483647 : Int) < if cellI
  (iCells IntKind.i64 g) (0 + Int.toNat (↑i : Int) * 1) > w then cellI (iCells IntKind.i64 g) (0 + Int.toNat (↑i : Int) * 1) else w then (2147483647 : Int) else if cellI
  (iCells IntKind.i64 g) (0 + Int.toNat (↑i : Int) * 1) > w then cellI (iCells IntKind.i64 g) (0 + Int.toNat (↑i : Int) * 1) else w) /\ ((0 = 0) /\ True)))))))))))))))))))))
  False) False) False)) False) (∃ y : Unit, ((True) /\ ((Eq (α := List Value) (iCells IntKind.i64 g) (iCells IntKind.i64 g)) /\ ((Plain (iCells IntKind.i64 g)) /\ True)))))
  (∃ y : Unit, ((True) /\ ((Eq (α := List Value) (iCells IntKind.i64 g) (iCells IntKind.i64 g)) /\ ((Plain (iCells IntKind.i64 g)) /\ True))))) := by kernel_rfl
theorem K_vc (l : List Int) : mcall EPk mK 3000 5 [.slice (some ⟨0, 0, none⟩) l.length 1] ⟨mkR (nums 0 [iRo .i64 l]), 1⟩ (retIs 1 (.bool true) [iRo .i64 l]) =
  (∃ g : List Int, ((List.length g <= 9223372036854775807) /\ ((0 = 0) /\ ((List.length g = List.length l) /\ ((0 = 0) /\ (((0 : Int) = (0 : Int)) /\ (((0 : Int) = (0 :
  Int)) /\ ((Eq (α := List Value) (iCells IntKind.i64 g) (iCells IntKind.i64 l)) /\ ((Plain (iCells IntKind.i64 g)) /\ (((10000 : Int) = (10000 : Int)) /\
  ((4591870180066957722 = 4591870180066957722) /\ (((2 : Int) = (2 : Int)) /\ (((65535 : Int) = (65535 : Int)) /\ (((65536 : Int) = (65536 : Int)) /\ (((4 : Int) = (4 :
  Int)) /\ (((1 : Int) = (1 : Int)) /\ (((0 : Int) = (0 : Int)) /\ ((0 = 0) /\ (∀ (y : Unit), ((True) → (((True /\ (True /\ (True /\ True)))) /\ ((true = true) /\ ((Eq (α :=
  List Value) (iCells IntKind.i64 l) (iCells IntKind.i64 g)) /\ ((Plain (iCells IntKind.i64 l)) /\ True)))))))))))))))))))))))) := by kernel_rfl
theorem eRunsP_ok : EntOk Tryz.prog eRunsP := entC_ok (by
  intro a rows p v news h hp
  split at h <;> simp only [Option.some.injEq, Prod.mk.injEq, reduceCtorEq] at h
  obtain ⟨rfl, rfl, rfl⟩ := h
  exact Go.Proofs.YthbibcgghdodaaaGreatDoor.cr.pr_law)
theorem tPk_ok : ∀ x ∈ tPk, EntOk Tryz.prog x := all_cons eRunsP_ok all_nil
theorem vq (k : IntKind) (n : Int) : veq 20 (.int k n) (.int k n) = true := self_veq 20 _ rfl
theorem K_piece : PieceOk EPk 1 (5, pK, specK) := by
  refine piece_loop mixed (calls_envTc tPk_ok) (lok_envTc _ _) lm_none (n := 300) (by kernel_rfl) (fun _ : List Int => (⟨0, 0⟩ : StK)) (fun g s => s.i ≤ g.length ∧ 0 ≤ s.w ∧ s.w ≤ 2147483647) (fun g s => g.length - s.i) (sl := slK) (rl := rlK) (fun g hg => ⟨Nat.zero_le _, by simp, by simp⟩) (fun g s hg hi => ?_)
  refine (K_round g s.w s.i _ _).mpr ?_
  obtain ⟨w, i⟩ := s
  obtain ⟨h1, h2, h3⟩ := hi
  have hm : maxLen = 9223372036854775807 := by unfold maxLen; rfl
  have g1 : g.length ≤ maxLen := hg
  simp only at h1 h2 h3
  simp only [ofNat_eq, toNat_cast, Nat.zero_add, Nat.add_zero, Nat.mul_one, List.drop_zero, bCells_len, bCells_drop, bCells_take, bCells_app, bCells_one, bCells_plain, List.length_replicate, List.length_append, List.length_take, List.length_drop, List.take_length, and_true, true_and, and_self, decide_true, List.length_nil, List.length_cons, Nat.sub_zero, dB_mk, dB_ro, List.take_zero, iCells_plain, iCells_len, Int.toNat_natCast, vq]
  refine br_if (fun h => br_if (fun h5 => br_dec (by omega) ?_) (fun _ => ⟨(), trivial⟩)) (fun _ => ⟨(), trivial⟩)
  have hi : i < g.length := by omega
  rw [iCells_cell hi]
  have wi : IntKind.i64.wrap ((i : Int) + 1) = ((i + 1 : Nat) : Int) := by rw [wr64_id (by unfold I64; omega)]; omega
  simp only [wi]
  have hget := iCells_get (k := .i64) hi
  generalize g.getD i 0 = x at *
  have key : (if (2147483647 : Int) < (if x > w then x else w) then (2147483647 : Int) else (if x > w then x else w)) = (if (if (2147483647 : Int) < x then (2147483647 : Int) else x) > w then (if (2147483647 : Int) < x then (2147483647 : Int) else x) else w) := by
    (repeat' split) <;> omega
  rw [key]
  have hb : 0 ≤ (if (if (2147483647 : Int) < x then (2147483647 : Int) else x) > w then (if (2147483647 : Int) < x then (2147483647 : Int) else x) else w) ∧ (if (if (2147483647 : Int) < x then (2147483647 : Int) else x) > w then (if (2147483647 : Int) < x then (2147483647 : Int) else x) else w) ≤ 2147483647 := by
    (repeat' split) <;> omega
  generalize (if (if (2147483647 : Int) < x then (2147483647 : Int) else x) > w then (if (2147483647 : Int) < x then (2147483647 : Int) else x) else w) = v at *
  refine ⟨hget, br_b rfl (br_b rfl (br_dec (by omega) ⟨hget, br_nb (by simp) ⟨⟨v, i + 1⟩, ⟨by simp only; omega, hb.1, hb.2⟩, by simp only; omega, rfl, rfl, rfl⟩⟩))⟩
theorem pk_law (l : List Int) (hl : l.length ≤ maxLen) (_ : ∀ x ∈ l, (Lit.int .i64 x).wf = true) : Con Tryz.prog 5 [slc 0 l.length] [iRo .i64 l] (.bool true) [iRo .i64 l] := by
  refine con_vc (E := EPk) mixed (calls_envTc tPk_ok) (lok_envTc _ _) (M := mK) (lm_one K_piece) (K_vc l) ?_
  simp only [ofNat_eq, toNat_cast, Nat.zero_add, Nat.add_zero, Nat.mul_one, List.drop_zero, bCells_len, bCells_drop, bCells_take, bCells_app, bCells_one, bCells_plain, List.length_replicate, List.length_append, List.length_take, List.length_drop, List.take_length, and_true, true_and, and_self, decide_true, List.length_nil, List.length_cons, Nat.sub_zero, dB_mk, dB_ro, List.take_zero, iCells_plain]
  have hm : maxLen = 9223372036854775807 := by unfold maxLen; rfl
  exact ⟨l, by omega, rfl, rfl, fun _ _ => rfl⟩
end Go.Proofs.YthbibcgghdodaaaGreatDoor.pk
