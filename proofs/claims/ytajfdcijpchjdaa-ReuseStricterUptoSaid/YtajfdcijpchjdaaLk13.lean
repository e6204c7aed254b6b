/- tkLower, rtAll, tokb_blank, rtTrim, as one. -/
import Derived.Test.YtajfdcijpchjdaaSz9
import Derived.Test.YtajfdcijpchjdaaRows
import Derived.Test.YtajfdcijpchjdaaLk9
import Derived.Test.YtajfdcijpchjdaaLbyt
/- A text in small letters. -/
set_option maxRecDepth 20000
set_option linter.unusedSimpArgs false
set_option linter.unusedVariables false
namespace Go.Proofs.Ytajfdcijpchjdaa.tk
open Go Go.Ev Go.Sy Go.RowKit Go.Proofs.Ytajfdcijpchjdaa.gl
def pLow : List Nat := [0, 1, 0, 1, 1]
def slLow (l : List UInt8) (i : Nat) : List (Nat × Value) := [(3, slc 0 l.length), (8, slc 0 l.length), (9, .int .i64 (l.length : Nat)), (10, .int .i64 (i : Nat))]
def rlLow (l : List UInt8) (i : Nat) : List (Nat × Row) := [(0, bOwn (lowerL (l.take i) ++ l.drop i))]
def wsLow (l : List UInt8) : List (Gate Unit) := [⟨.exit 0, fun _ => True, fun _ => [(3, slc 0 l.length)], fun _ => [(0, bOwn (lowerL l))], 1⟩]
def specLow : Sy.Spec := specOf 0 1 30 (fun l : List UInt8 => l.length ≤ maxLen) (fun l => slLow l 0) (fun l => rlLow l 0) wsLow
def mLow := mOf [(65, pLow, specLow)]
theorem Low_round (l : List UInt8) (i : Nat) (Inv : Nat → Prop) (m : Nat → Nat) : mev E0 noM 60 65 (0 :: pLow) false (codeOf Try.prog 65 (0 :: pLow)) ⟨mkOv (slLow l i), 30, []⟩ none ⟨mkR (rlLow l i), 1⟩ (roundK 0 1 30 Inv m (slLow l) (rlLow l) (wsLow l) i) =
  let z1 := (bCells (lowerL (List.take i l) ++ List.drop i l)); let z2 := ((↑(List.length l) : Int) = (↑(List.length l) : Int)); let z3 := (decide ((0 : Int) <= (↑i : Int)
  /\ (↑i : Int) < (↑(List.length l) : Int))); (br (decide ((↑i : Int) < (↑(List.length l) : Int))) (br z3 ((Eq (α := Option Value) (z1[0 + Int.toNat (↑i : Int) * 1]?) (some
  (Value.int IntKind.u8 (cellI z1 (0 + Int.toNat (↑i : Int) * 1))))) /\ (br (decide (cellI z1 (0 + Int.toNat (↑i : Int) * 1) ≥ (65 : Int))) (br (decide (cellI z1 (0 +
  Int.toNat (↑i : Int) * 1) <= (90 : Int))) (br z3 (br (decide (0 + Int.toNat (↑i : Int) * 1 + 1 <= List.length z1)) (∃ j : Nat, ((Inv j) /\ ((m j < m i) /\ ((0 = 0) /\
  ((List.length l = List.length l) /\ ((0 = 0) /\ ((List.length l = List.length l) /\ (z2 /\ (((↑j : Int) = IntKind.wrap IntKind.i64 ((↑i : Int) + (1 : Int))) /\ ((Eq (α :=
  List Value) (bCells (lowerL (List.take j l) ++ List.drop j l)) (ovr z1 (0 + Int.toNat (↑i : Int) * 1) [Value.int IntKind.u8 (IntKind.wrap IntKind.u8 (IntKind.wrap
  IntKind.u8 (cellI z1 (0 + Int.toNat (↑i : Int) * 1) - (65 : Int)) + (97 : Int)))])) /\ ((Plain (bCells (lowerL (List.take j l) ++ List.drop j l))) /\ True)))))))))))
  False) False) (∃ j : Nat, ((Inv j) /\ ((m j < m i) /\ ((0 = 0) /\ ((List.length l = List.length l) /\ ((0 = 0) /\ ((List.length l = List.length l) /\ (z2 /\ (((↑j : Int) =
  IntKind.wrap IntKind.i64 ((↑i : Int) + (1 : Int))) /\ ((Eq (α := List Value) (bCells (lowerL (List.take j l) ++ List.drop j l)) z1) /\ ((Plain (bCells (lowerL (List.take j
  l) ++ List.drop j l))) /\ True)))))))))))) (∃ j : Nat, ((Inv j) /\ ((m j < m i) /\ ((0 = 0) /\ ((List.length l = List.length l) /\ ((0 = 0) /\ ((List.length l =
  List.length l) /\ (z2 /\ (((↑j : Int) = IntKind.wrap IntKind.i64 ((↑i : Int) + (1 : Int))) /\ ((Eq (α := List Value) (bCells (lowerL (List.take j l) ++ List.drop j l)) z1)
  /\ ((Plain (bCells (lowerL (List.take j l) ++ List.drop j l))) /\ True))))))))))))) False) (∃ y : Unit, ((True) /\ ((0 = 0) /\ ((List.length l = List.length l) /\ ((Eq (α
  := List Value) (bCells (lowerL l)) z1) /\ ((Plain (bCells (lowerL l))) /\ True))))))) := by kernel_rfl
theorem Low_vc0  : mcall E0 noM 60 65 [.string (bs [])] ⟨mkR (nums 0 []), 0⟩ (retIs 0 (.string (bs [])) []) =
  ((AllB (List.take 0 (List.drop 0 []))) /\ ((bs [] = ByteArray.mk (List.toArray (List.map bOf (List.take 0 (List.drop 0 []))))) /\ True)) := by kernel_rfl
theorem Low_vc (l : List UInt8) (v : List UInt8) : mcall E0 mLow 60 65 [.string (bs l)] ⟨mkR (nums 0 []), 0⟩ (retIs 0 (.string (bs v)) []) =
  (br (decide (0 < List.length (Array.toList (ByteArray.data (bs l))))) (∃ g : List UInt8, ((List.length g <= 9223372036854775807) /\ ((0 = 0) /\ ((List.length g =
  List.length (Array.toList (ByteArray.data (bs l)))) /\ ((0 = 0) /\ ((List.length g = List.length (Array.toList (ByteArray.data (bs l)))) /\ (((↑(List.length g) : Int) =
  Int.ofNat (List.length (Array.toList (ByteArray.data (bs l))))) /\ (((0 : Int) = (0 : Int)) /\ ((Eq (α := List Value) (bCells ([] ++ List.drop 0 g)) (List.map (fun b ↦
  Value.int IntKind.u8 (↑(UInt8.toNat b) : Int)) (Array.toList (ByteArray.data (bs l))))) /\ ((Plain (bCells ([] ++ List.drop 0 g))) /\ (∀ (y : Unit), ((True) → (br (decide
  (0 + List.length g <= List.length (bCells (lowerL g)))) ((AllB (List.take (List.length g) (List.drop 0 (bCells (lowerL g))))) /\ ((bs v = ByteArray.mk (Array.mk (List.map
  bOf (List.take (List.length g) (List.drop 0 (bCells (lowerL g))))))) /\ True)) False))))))))))))) (∃ g : List UInt8, ((List.length g <= 9223372036854775807) /\ ((0 = 0) /\
  ((List.length g = 0) /\ ((0 = 0) /\ ((List.length g = 0) /\ (((↑(List.length g) : Int) = (0 : Int)) /\ (((0 : Int) = (0 : Int)) /\ False))))))))) := by kernel_rfl
theorem Low_piece : PieceOk E0 0 (65, pLow, specLow) := by
  refine piece_loop mixed (calls_envN _) (lok_envN _) lm_none (n := 60) (by kernel_rfl) (fun _ : List UInt8 => (0 : Nat)) (fun l i => i ≤ l.length) (fun l i => l.length - i) (sl := slLow) (rl := rlLow) (fun l hg => Nat.zero_le _) (fun l i hg hi => ?_)
  refine (Low_round l i _ _).mpr ?_
  have hm : maxLen = 9223372036854775807 := by unfold maxLen; rfl
  have hlow : ∀ n, (lowerL (l.take n) ++ l.drop n).length = l.length := by intro n; simp [lowerL]; omega
  simp only [ofNat_eq, toNat_cast, Nat.zero_add, Nat.add_zero, Nat.mul_one, List.drop_zero, bCells_len, bCells_drop, bCells_take, bCells_app, bCells_one, bCells_plain, List.length_replicate, List.length_append, List.length_take, List.length_drop, List.take_length, and_true, true_and, and_self, decide_true, List.length_nil, List.length_cons, Nat.sub_zero, dB_mk, dB_ro, List.take_zero, hlow, cells_int, List.length_singleton]
  refine br_if (fun h => ?_) (fun h => ⟨(), ?_⟩)
  · have hi : i < l.length := by omega
    have hk : i < (lowerL (l.take i) ++ l.drop i).length := by rw [hlow]; exact hi
    have e : (lowerL (l.take i) ++ l.drop i).getD i 0 = l[i] := by
      have : (lowerL (l.take i)).length = i := by simp [lowerL]; omega
      rw [List.getD_eq_getElem?_getD, List.getElem?_append_right (by omega), this]; simp [hi]
    have nxt : lowerL (l.take (i + 1)) ++ l.drop (i + 1) = (lowerL (l.take i) ++ l.drop i).set i (lowC l[i]) := by
      have h3 : (lowerL (l.take i)).length = i := by simp [lowerL]; omega
      rw [List.set_append_right _ _ (by omega), h3, List.drop_eq_getElem_cons hi, Nat.sub_self, List.set_cons_zero, List.take_succ_eq_append_getElem hi]
      unfold lowerL; rw [List.map_append, List.append_assoc]; rfl
    rw [bCells_get hk, bCells_cell hk, e]
    have w := i64_succ (show i < 9223372036854775807 by omega)
    have hc := l[i].toNat_lt
    simp only [w]
    have same : lowC l[i] = l[i] → bCells (lowerL (l.take (i + 1)) ++ l.drop (i + 1)) = bCells (lowerL (l.take i) ++ l.drop i) := fun h => by
      rw [nxt, h, ← e]
      exact congrArg bCells (set_getD _ _ hk)
    have other : ∀ k : Int, lowC l[i] = UInt8.ofNat k.toNat → 0 ≤ k → k < 256 → bCells (lowerL (l.take (i + 1)) ++ l.drop (i + 1)) = ovr (bCells (lowerL (l.take i) ++ l.drop i)) i [.int .u8 k] := fun k h k0 k1 => by
      have : [Value.int .u8 k] = bCells [UInt8.ofNat k.toNat] := by
        show _ = [bVal (UInt8.ofNat k.toNat)]
        rw [← bVal_nat (by omega), Int.toNat_of_nonneg k0]
      rw [nxt, h, this, bCells_ovr]
      rw [show [UInt8.ofNat k.toNat].length = 1 from rfl, ovr_set hk]
    have fin : ∀ P : Nat → Prop, (i + 1 ≤ l.length ∧ l.length - (i + 1) < l.length - i ∧ ((i + 1 : Nat) : Int) = ((i + 1 : Nat) : Int) ∧ P (i + 1)) → ∃ j, j ≤ l.length ∧ l.length - j < l.length - i ∧ (j : Int) = ((i + 1 : Nat) : Int) ∧ P j := fun P h => ⟨i + 1, h⟩
    refine br_dec (by omega) ⟨trivial, br_if (fun h1 => br_if (fun h2 => br_dec (by omega) (br_dec (by omega) ⟨i + 1, by omega, by omega, rfl, ?_⟩)) (fun h2 => ⟨i + 1, by omega, by omega, rfl, ?_⟩)) (fun h1 => ⟨i + 1, by omega, by omega, rfl, ?_⟩)⟩
    · have e1 : IntKind.u8.wrap (IntKind.u8.wrap (((l[i].toNat : Nat) : Int) - 65) + 97) = (l[i].toNat : Int) + 32 := by rw [wru8, wru8]; omega
      rw [e1]
      refine other _ ?_ (by omega) (by omega)
      unfold lowC; rw [if_pos (by omega)]; exact congrArg UInt8.ofNat (by omega)
    · refine same ?_
      unfold lowC; rw [if_neg (by omega)]
    · refine same ?_
      unfold lowC; rw [if_neg (by omega)]
  · rw [show i = l.length by omega]; simp
theorem Low_con (l : List UInt8) (hl : l.length ≤ maxLen) : Con Try.prog 65 [.string (bs l)] [] (.string (bs (lowerL l))) [] := by
  by_cases h0 : l = []
  · subst h0
    exact con_vc (E := E0) mixed (calls_envN _) (lok_envN _) (M := noM) lm_none Low_vc0 ⟨fun v hv => by simp at hv, rfl, trivial⟩
  · refine con_vc (E := E0) mixed (calls_envN _) (lok_envN _) (M := mLow) (lm_one Low_piece) (Low_vc l _) ?_
    have h1 : 0 < l.length := List.length_pos_iff.2 h0
    have hlen : (lowerL l).length = l.length := by simp [lowerL]
    have ht : (bCells (lowerL l)).take l.length = bCells (lowerL l) := List.take_of_length_le (by rw [bCells_len, hlen]; omega)
    have hb : ∀ l : List UInt8, (⟨(List.map bOf (bCells l)).toArray⟩ : ByteArray) = bs l := fun l => by rw [bCells_bOf]; rfl
    have hv : l.map (fun b => Value.int .u8 (b.toNat : Int)) = bCells l := rfl
    have hz : lowerL (l.take 0) ++ l.drop 0 = l := rfl
    simp only [ofNat_eq, toNat_cast, Nat.zero_add, Nat.add_zero, Nat.mul_one, List.drop_zero, bCells_len, bCells_drop, bCells_take, bCells_app, bCells_one, bCells_plain, List.length_replicate, List.length_append, List.length_take, List.length_drop, List.take_length, and_true, true_and, and_self, decide_true, List.length_nil, List.length_cons, Nat.sub_zero, dB_mk, dB_ro, List.take_zero, bs_d, hlen, ht, hb, hv, hz]
    refine br_dec h1 ⟨l, by unfold maxLen at hl; omega, rfl, rfl, rfl, rfl, fun _ _ => br_dec (by omega) ⟨bCells_all _, ?_⟩⟩
    rw [List.take_of_length_le (by omega)]
end Go.Proofs.Ytajfdcijpchjdaa.tk

/- The values of a name's fields, by the document. -/
set_option maxRecDepth 20000
set_option linter.unusedSimpArgs false
set_option linter.unusedVariables false
namespace Go.Proofs.Ytajfdcijpchjdaa.tk
open Go Go.Ev Go.Sy Go.RowKit Go.Proofs.Ytajfdcijpchjdaa.gl
def pRa : List Nat := [0, 1, 0, 1, 1]
structure GRa where
  l : List Fl
  nm : List UInt8
structure StRa where
  acc : List UInt8
  k : Nat
  i : Nat
def slRa (g : GRa) (s : StRa) : List (Nat × Value) := [(0, .slice (some ⟨0, 0, none⟩) g.l.length 2), (1, .string (bs g.nm)), (6, .string (bs s.acc)), (7, .int .i64 (s.k : Nat)), (8, .int .i64 (s.i : Nat))]
def rlRa (g : GRa) (_ : StRa) : List (Nat × Row) := [(0, gRo enF g.l)]
def wsRa (g : GRa) : List (Gate Unit) := [⟨.exit 0, fun _ => True, fun _ => [(6, .string (bs (allL g.l g.nm))), (7, .int .i64 (allN g.nm g.l : Nat))], fun _ => [(0, gRo enF g.l)], 1⟩]
def specRa : Sy.Spec := specOf 1 1 37 (fun g : GRa => g.l.length ≤ maxLen ∧ (allL g.l g.nm).length ≤ 16777216) (fun g => slRa g ⟨[], 0, 0⟩) (fun g => rlRa g ⟨[], 0, 0⟩) wsRa
def mRa := mOf [(18, pRa, specRa)]
theorem Ra_round (g : GRa) (s : StRa) (Inv : StRa → Prop) (m : StRa → Nat) : mev E0 noM 60 18 (0 :: pRa) false (codeOf Try.prog 18 (0 :: pRa)) ⟨mkOv (slRa g s), 37, []⟩ none ⟨mkR (rlRa g s), 1⟩ (roundK 1 1 37 Inv m (slRa g) (rlRa g) (wsRa g) s) =
  let z1 := ((Eq (α := List Value) (gC enF g.1) (gC enF g.1)) /\ ((Plain (gC enF g.1)) /\ True)); let z2 := (cellS (gC enF g.1) (0 + Int.toNat (↑s.3 : Int) * 2 + 1)); let z3
  := (decide ((0 : Int) <= (↑s.3 : Int) /\ (↑s.3 : Int) < (↑(List.length g.1) : Int))); let z4 := (Eq (α := Option Value) ((gC enF g.1)[0 + Int.toNat (↑s.3 : Int) * 2 + 1]?)
  (some (Value.string z2))); let z5 := (cellS (gC enF g.1) (0 + Int.toNat (↑s.3 : Int) * 2 + 0)); (br (decide ((↑s.3 : Int) < Int.ofNat (List.length g.1))) (br z3 ((Eq (α :=
  Option Value) ((gC enF g.1)[0 + Int.toNat (↑s.3 : Int) * 2 + 0]?) (some (Value.string z5))) /\ (br (!strEq z5 (bs g.2)) (∃ j : StRa, ((Inv j) /\ ((m j < m s) /\ ((0 = 0)
  /\ ((List.length g.1 = List.length g.1) /\ ((bs g.2 = bs g.2) /\ ((bs j.1 = bs s.1) /\ (((↑j.2 : Int) = (↑s.2 : Int)) /\ (((↑j.3 : Int) = IntKind.wrap IntKind.i64 ((↑s.3 :
  Int) + (1 : Int))) /\ z1))))))))) (br (decide ((↑s.2 : Int) > (0 : Int))) (br (decide (List.length (Array.toList (ByteArray.data (bs s.1))) + 2 <= 9223372036854775807))
  (br z3 (z4 /\ (br (decide (List.length (Array.toList (ByteArray.data (bs s.1)) ++ [44, 32]) + List.length (Array.toList (ByteArray.data z2)) <= 9223372036854775807)) (∃ j
  : StRa, ((Inv j) /\ ((m j < m s) /\ ((0 = 0) /\ ((List.length g.1 = List.length g.1) /\ ((bs g.2 = bs g.2) /\ ((bs j.1 = bs s.1 ++ ByteArray.mk #[44, 32] ++ cellS (gC enF
  g.1) (0 + Int.toNat (↑s.3 : Int) * 2 + 1)) /\ (((↑j.2 : Int) = IntKind.wrap IntKind.i64 ((↑s.2 : Int) + (1 : Int))) /\ (((↑j.3 : Int) = IntKind.wrap IntKind.i64 ((↑s.3 :
  Int) + (1 : Int))) /\ z1))))))))) False)) False) False) (br z3 (z4 /\ (br (decide (List.length (Array.toList (ByteArray.data (bs s.1))) + List.length (Array.toList
  (ByteArray.data z2)) <= 9223372036854775807)) (∃ j : StRa, ((Inv j) /\ ((m j < m s) /\ ((0 = 0) /\ ((List.length g.1 = List.length g.1) /\ ((bs g.2 = bs g.2) /\ ((bs j.1 =
  bs s.1 ++ cellS (gC enF g.1) (0 + Int.toNat (↑s.3 : Int) * 2 + 1)) /\ (((↑j.2 : Int) = IntKind.wrap IntKind.i64 ((↑s.2 : Int) + (1 : Int))) /\ (((↑j.3 : Int) =
  IntKind.wrap IntKind.i64 ((↑s.3 : Int) + (1 : Int))) /\ z1))))))))) False)) False)))) False) (∃ y : Unit, ((True) /\ ((bs (allL g.1 g.2) = bs s.1) /\ (((↑(allN g.2 g.1) :
  Int) = (↑s.2 : Int)) /\ z1))))) := by kernel_rfl
theorem Ra_vc (l : List Fl) (nm v : List UInt8) (n : Int) : mcall E0 mRa 60 18 [.slice (some ⟨0, 0, none⟩) l.length 2, .string (bs nm)] ⟨mkR (nums 0 [gRo enF l]), 1⟩ (retIs 1 (.tuple #[.string (bs v), .int .i64 n]) [gRo enF l]) =
  (∃ g : GRa, ((List.length g.1 <= 9223372036854775807 /\ List.length (allL g.1 g.2) <= 16777216) /\ ((0 = 0) /\ ((List.length g.1 = List.length l) /\ ((bs g.2 = bs nm) /\
  ((bs (StRa.acc (StRa.mk [] 0 0)) = ByteArray.mk #[]) /\ (((0 : Int) = (0 : Int)) /\ (((0 : Int) = (0 : Int)) /\ ((Eq (α := List Value) (gC enF g.1) (gC enF l)) /\ ((Plain
  (gC enF g.1)) /\ (∀ (y : Unit), ((True) → ((bs v = bs (allL g.1 g.2)) /\ ((n = (↑(allN g.2 g.1) : Int)) /\ ((Eq (α := List Value) (gC enF l) (gC enF g.1)) /\ ((Plain (gC
  enF l)) /\ True)))))))))))))))) := by kernel_rfl
theorem Ra_piece : PieceOk E0 1 (18, pRa, specRa) := by
  refine piece_loop mixed (calls_envN _) (lok_envN _) lm_none (n := 60) (by kernel_rfl) (fun _ : GRa => (⟨[], 0, 0⟩ : StRa)) (fun g s => s.i ≤ g.l.length ∧ s.k ≤ s.i ∧ allS g.nm (g.l.drop s.i) s.acc s.k = allL g.l g.nm ∧ s.k + allN g.nm (g.l.drop s.i) = allN g.nm g.l) (fun g s => g.l.length - s.i) (sl := slRa) (rl := rlRa) (fun g hg => ⟨Nat.zero_le _, Nat.le_refl _, rfl, by simp⟩) (fun g s hg hi => ?_)
  refine (Ra_round g s _ _).mpr ?_
  obtain ⟨l, nm⟩ := g
  obtain ⟨acc, k, i⟩ := s
  obtain ⟨h1, h2, h3, h4⟩ := hi
  obtain ⟨g1, g2⟩ := hg
  have hm : maxLen = 9223372036854775807 := by unfold maxLen; rfl
  simp only at h1 h2 h3 h4 g1 g2
  simp only [ofNat_eq, toNat_cast, Nat.zero_add, Nat.add_zero, Nat.mul_one, List.drop_zero, bCells_len, bCells_drop, bCells_take, bCells_app, bCells_one, bCells_plain, List.length_replicate, List.length_append, List.length_take, List.length_drop, List.take_length, and_true, true_and, and_self, decide_true, List.length_nil, List.length_cons, Nat.sub_zero, dB_mk, dB_ro, List.take_zero, bs_d, bs_nil, fPl]
  refine br_if (fun h => br_dec (by omega) ?_) (fun h => ?_)
  rotate_left
  · have hz : l.drop i = [] := List.drop_eq_nil_of_le (by omega)
    rw [hz] at h3 h4
    have h3 : acc = allL l nm := h3
    have h4 : k = allN nm l := by simpa [allN] using h4
    subst h3; subst h4
    exact ⟨(), rfl, rfl⟩
  have hi : i < l.length := by omega
  obtain ⟨c1, c2, c3, c4⟩ := fGet l i hi
  have hd := List.drop_eq_getElem_cons hi
  rw [hd, allS] at h3
  rw [hd, allN_cons] at h4
  have w := i64_succ (show i < 9223372036854775807 by omega)
  have w2 := i64_succ (show k < 9223372036854775807 by omega)
  have e2 : (⟨#[44, 32]⟩ : ByteArray) = bs [44, 32] := rfl
  simp only [c1, c2, c3, c4, strEq_bs, true_and, w, w2, e2, bs_app, bs_d]
  by_cases hn : l[i].n = nm
  · rw [if_pos hn] at h3 h4
    have hlen := allS_len nm (l.drop (i + 1)) (acc ++ (if k = 0 then [] else [44, 32]) ++ l[i].v) (k + 1)
    rw [h3] at hlen
    simp only [List.length_append] at hlen
    refine br_nb (by simp [hn]) (br_if (fun h5 => ?_) (fun h5 => ?_))
    · rw [if_neg (show k ≠ 0 by omega)] at h3 hlen
      simp only [List.length_cons, List.length_nil] at hlen
      refine br_dec (by omega) (br_dec (by omega) (br_dec (by omega) ?_))
      exact ⟨⟨acc ++ [44, 32] ++ l[i].v, k + 1, i + 1⟩, ⟨by simp only; omega, by simp only; omega, h3, by simp only; omega⟩, by simp only; omega, rfl, rfl, rfl⟩
    · have hk : k = 0 := by omega
      rw [if_pos hk] at h3 hlen
      simp only [List.append_nil, List.length_nil] at hlen h3
      refine br_dec (by omega) (br_dec (by omega) ?_)
      exact ⟨⟨acc ++ l[i].v, k + 1, i + 1⟩, ⟨by simp only; omega, by simp only; omega, h3, by simp only; omega⟩, by simp only; omega, rfl, rfl, rfl⟩
  · rw [if_neg hn] at h3 h4
    exact br_b (by simp [hn]) ⟨⟨acc, k, i + 1⟩, ⟨by simp only; omega, by simp only; omega, h3, h4⟩, by simp only; omega, rfl, rfl, rfl⟩
theorem Ra_con (l : List Fl) (nm : List UInt8) (hl : l.length ≤ maxLen) (h : (allL l nm).length ≤ 16777216) : Con Try.prog 18 [.slice (some ⟨0, 0, none⟩) l.length 2, .string (bs nm)] [gRo enF l] (.tuple #[.string (bs (allL l nm)), .int .i64 (allN nm l : Nat)]) [gRo enF l] := by
  refine con_vc (E := E0) mixed (calls_envN _) (lok_envN _) (M := mRa) (lm_one Ra_piece) (Ra_vc l nm _ _) ?_
  simp only [ofNat_eq, toNat_cast, Nat.zero_add, Nat.add_zero, Nat.mul_one, List.drop_zero, bCells_len, bCells_drop, bCells_take, bCells_app, bCells_one, bCells_plain, List.length_replicate, List.length_append, List.length_take, List.length_drop, List.take_length, and_true, true_and, and_self, decide_true, List.length_nil, List.length_cons, Nat.sub_zero, dB_mk, dB_ro, List.take_zero, bs_d, bs_nil, fPl]
  exact ⟨⟨l, nm⟩, ⟨by simpa [maxLen] using hl, h⟩, rfl, rfl, rfl, fun _ _ => ⟨rfl, rfl, rfl⟩⟩
end Go.Proofs.Ytajfdcijpchjdaa.tk

/- A function of one byte. -/
set_option maxRecDepth 20000
set_option linter.unusedSimpArgs false
set_option linter.unusedVariables false
namespace Go.Proofs.Ytajfdcijpchjdaa.tk
open Go Go.Ev Go.Sy Go.RowKit
theorem blank_con (c : UInt8) : Con Try.prog 51 [.int .u8 c.toNat] [] (.bool (spN c.toNat)) [] :=
  Go.Proofs.Ytajfdcijpchjdaa.byt.by_con mixed (by kernel_rfl) (Go.Proofs.Ytajfdcijpchjdaa.byt.eight (by kernel_rfl) (by kernel_rfl) (by kernel_rfl) (by kernel_rfl) (by kernel_rfl) (by kernel_rfl) (by kernel_rfl) (by kernel_rfl)) c
end Go.Proofs.Ytajfdcijpchjdaa.tk

/- A text without blanks at its ends, by the document. -/
set_option maxRecDepth 20000
set_option linter.unusedSimpArgs false
set_option linter.unusedVariables false
namespace Go.Proofs.Ytajfdcijpchjdaa.tk
open Go Go.Ev Go.Sy Go.RowKit Go.Proofs.Ytajfdcijpchjdaa.gl
def cRtm : FuncId → List Value → List Row → Option (Prop × Value × List Row)
  | 51, [.int .u8 n], [] => some (Byt n, .bool (spI n), [])
  | _, _, _ => none
noncomputable abbrev ERtm : Env := envC Try.prog cRtm (fun f => Nat.beq f 51)
def pRtm1 : List Nat := [0, 0, 1]
def pRtm2 : List Nat := [0, 0, 1, 1]
def slRtm (_ s : List UInt8) : List (Nat × Value) := [(0, .string (bs s))]
def wsRtm1 (l : List UInt8) : List (Gate Unit) := [⟨.exit 0, fun _ => True, fun _ => [(0, .string (bs (trimF l)))], fun _ => [], 0⟩]
def wsRtm2 (l : List UInt8) : List (Gate Unit) := [⟨.exit 2, fun _ => True, fun _ => [(0, .string (bs (trimB l)))], fun _ => [], 0⟩]
def specRtm1 : Sy.Spec := specOf 0 0 30 (fun l : List UInt8 => l.length ≤ maxLen) (fun l => slRtm l l) (fun _ => []) wsRtm1
def specRtm2 : Sy.Spec := specOf 0 0 30 (fun l : List UInt8 => l.length ≤ maxLen) (fun l => slRtm l l) (fun _ => []) wsRtm2
def mRtm := mOf [(33, pRtm1, specRtm1), (33, pRtm2, specRtm2)]
theorem Rtm1_round (l s : List UInt8) (Inv : List UInt8 → Prop) (m : List UInt8 → Nat) : mev ERtm noM 60 33 (0 :: pRtm1) false (codeOf Try.prog 33 (0 :: pRtm1)) ⟨mkOv (slRtm l s), 30, []⟩ none ⟨mkR [], 0⟩ (roundK 0 0 30 Inv m (slRtm l) (fun _ => []) (wsRtm1 l) s) =
  let z1 := (List.length (Array.toList (ByteArray.data (bs s)))); (br (decide (Int.ofNat z1 > (0 : Int))) (br (decide ((0 : Int) <= (0 : Int) /\ (0 : Int) < (↑z1 : Int)))
  ((((True /\ True) /\ (True /\ Byt (byteAt (bs s) 0)))) /\ (br (spI (byteAt (bs s) 0)) (br (decide ((0 : Int) <= (1 : Int) /\ (1 : Int) <= (↑z1 : Int) /\ (↑z1 : Int) <=
  (↑z1 : Int))) (∃ j : List UInt8, ((Inv j) /\ ((m j < m s) /\ ((bs j = sub (bs s) 1 (Int.toNat (↑z1 : Int))) /\ True)))) False) (∃ y : Unit, ((True) /\ ((bs (trimF l) = bs
  s) /\ True))))) False) (∃ y : Unit, ((True) /\ ((bs (trimF l) = bs s) /\ True)))) := by kernel_rfl
theorem Rtm2_round (l s : List UInt8) (Inv : List UInt8 → Prop) (m : List UInt8 → Nat) : mev ERtm noM 60 33 (0 :: pRtm2) false (codeOf Try.prog 33 (0 :: pRtm2)) ⟨mkOv (slRtm l s), 30, []⟩ none ⟨mkR [], 0⟩ (roundK 0 0 30 Inv m (slRtm l) (fun _ => []) (wsRtm2 l) s) =
  let z2 := (List.length (Array.toList (ByteArray.data (bs s)))); let z1 := (Int.ofNat z2 - (1 : Int)); let z3 := (byteAt (bs s) (Int.toNat (IntKind.wrap IntKind.i64 z1)));
  (br (decide (Int.ofNat z2 > (0 : Int))) (br (decide ((0 : Int) <= IntKind.wrap IntKind.i64 z1 /\ IntKind.wrap IntKind.i64 z1 < (↑z2 : Int))) ((((True /\ True) /\ (True /\
  Byt z3))) /\ (br (spI z3) (br (decide ((0 : Int) <= (↑0 : Int) /\ (0 : Int) <= IntKind.wrap IntKind.i64 z1 /\ IntKind.wrap IntKind.i64 z1 <= (↑z2 : Int))) (∃ j : List
  UInt8, ((Inv j) /\ ((m j < m s) /\ ((bs j = sub (bs s) 0 (Int.toNat (IntKind.wrap IntKind.i64 z1))) /\ True)))) False) (∃ y : Unit, ((True) /\ ((bs (trimB l) = bs s) /\
  True))))) False) (∃ y : Unit, ((True) /\ ((bs (trimB l) = bs s) /\ True)))) := by kernel_rfl
theorem Rtm_vc (l : List UInt8) (v : List UInt8) : mcall ERtm mRtm 60 33 [.string (bs l)] ⟨mkR (nums 0 []), 0⟩ (retIs 0 (.string (bs v)) []) =
  (∃ g : List UInt8, ((List.length g <= 9223372036854775807) /\ ((bs g = bs l) /\ (∀ (y : Unit), ((True) → (∃ g2 : List UInt8, ((List.length g2 <= 9223372036854775807) /\
  ((bs g2 = bs (trimF g)) /\ (∀ (y2 : Unit), ((True) → ((bs v = bs (trimB g2)) /\ True))))))))))) := by kernel_rfl
theorem cRtm_ok : ∀ f a rows p v news, cRtm f a rows = some (p, v, news) → p → Con Try.prog f a rows v (rows ++ news) := by
  intro f a rows p v news h hp
  unfold cRtm at h
  split at h <;> simp only [Option.some.injEq, Prod.mk.injEq, reduceCtorEq] at h <;> obtain ⟨rfl, rfl, rfl⟩ := h
  rename_i n
  obtain ⟨k, rfl⟩ := byt_nat hp
  exact blank_con k
theorem Rtm1_piece : PieceOk ERtm 0 (33, pRtm1, specRtm1) := by
  refine piece_loop mixed (calls_envC cRtm_ok) (lok_envC _ _ _) lm_none (n := 60) (by kernel_rfl) (fun l : List UInt8 => l) (fun l s => trimF s = trimF l ∧ s.length ≤ l.length) (fun _ s => s.length) (sl := slRtm) (rl := fun _ _ => []) (fun l hg => ⟨rfl, Nat.le_refl _⟩) (fun l s hg hi => ?_)
  refine (Rtm1_round l s _ _).mpr ?_
  obtain ⟨h1, h2⟩ := hi
  have hm : maxLen = 9223372036854775807 := by unfold maxLen; rfl
  simp only [ofNat_eq, toNat_cast, Nat.zero_add, Nat.add_zero, Nat.mul_one, List.drop_zero, bCells_len, bCells_drop, bCells_take, bCells_app, bCells_one, bCells_plain, List.length_replicate, List.length_append, List.length_take, List.length_drop, List.take_length, and_true, true_and, and_self, decide_true, List.length_nil, List.length_cons, Nat.sub_zero, dB_mk, dB_ro, List.take_zero, bs_d, bs_nil, strEq_bs]
  cases s with
  | nil => refine br_nb (by simp) ⟨(), ?_⟩; rw [← h1]; rfl
  | cons c r =>
    have hb : byteAt (bs (c :: r)) (Int.toNat 0) = c.toNat := rfl
    have hb0 : byteAt (bs (c :: r)) 0 = c.toNat := rfl
    have hs : sub (bs (c :: r)) (Int.toNat 1) (c :: r).length = bs r := by rw [sub_bs]; simp
    simp only [hb, hb0, hs]
    simp only [List.length_cons] at *
    refine br_b (by first | (simp; done) | (simp; omega)) (br_dec (by omega) ⟨u8_b _, br_intro (fun h => br_dec (by omega) ⟨r, ⟨?_, by omega⟩, by omega, ?_⟩) (fun h => ⟨(), ?_⟩)⟩)
    · rw [← h1]; unfold trimF; rw [List.dropWhile_cons_of_pos]; simpa [spI, spC, hb0] using h
    · exact congrArg bs (by simp [bs_d])
    · refine congrArg bs ?_
      rw [← h1]; unfold trimF; rw [List.dropWhile_cons_of_neg]; simpa [spI, spC, hb0] using h
theorem Rtm2_piece : PieceOk ERtm 0 (33, pRtm2, specRtm2) := by
  refine piece_loop mixed (calls_envC cRtm_ok) (lok_envC _ _ _) lm_none (n := 60) (by kernel_rfl) (fun l : List UInt8 => l) (fun l s => trimB s = trimB l ∧ s.length ≤ l.length) (fun _ s => s.length) (sl := slRtm) (rl := fun _ _ => []) (fun l hg => ⟨rfl, Nat.le_refl _⟩) (fun l s hg hi => ?_)
  refine (Rtm2_round l s _ _).mpr ?_
  obtain ⟨h1, h2⟩ := hi
  have hm : maxLen = 9223372036854775807 := by unfold maxLen; rfl
  simp only [ofNat_eq, toNat_cast, Nat.zero_add, Nat.add_zero, Nat.mul_one, List.drop_zero, bCells_len, bCells_drop, bCells_take, bCells_app, bCells_one, bCells_plain, List.length_replicate, List.length_append, List.length_take, List.length_drop, List.take_length, and_true, true_and, and_self, decide_true, List.length_nil, List.length_cons, Nat.sub_zero, dB_mk, dB_ro, List.take_zero, bs_d, bs_nil, strEq_bs]
  rcases List.eq_nil_or_concat s with rfl | ⟨r, c, rfl⟩
  · refine br_nb (by simp) ⟨(), ?_⟩; rw [← h1]; rfl
  · rw [List.concat_eq_append] at *
    have hl : (r ++ [c]).length = r.length + 1 := by simp
    have w : IntKind.i64.wrap (((r.length + 1 : Nat) : Int) - 1) = (r.length : Nat) := by rw [wr64_id (by unfold I64; omega)]; omega
    have hb : byteAt (bs (r ++ [c])) r.length = c.toNat := by rw [byteAt_bs (by simp)]; simp
    have hs : sub (bs (r ++ [c])) (Int.toNat 0) r.length = bs r := by rw [sub_bs]; simp
    have hs2 : sub (bs (r ++ [c])) 0 r.length = bs r := hs
    have ht : trimB (r ++ [c]) = if spC c then trimB r else r ++ [c] := by
      unfold trimB; rw [List.reverse_append, List.reverse_singleton, List.singleton_append, List.dropWhile_cons]
      split <;> simp
    rw [hl] at h2
    simp only [hl, w, hb, hs, hs2, toNat_cast]
    rw [ht] at h1
    refine br_b (by first | (simp; done) | (simp; omega)) (br_dec (by omega) ⟨u8_b _, br_intro (fun h => br_dec (by omega) ⟨r, ⟨?_, by omega⟩, by omega, ?_⟩) (fun h => ⟨(), ?_⟩)⟩)
    · rw [if_pos (by simpa [spI, spC] using h)] at h1; exact h1
    · first | rfl | exact congrArg bs (by simp [bs_d])
    · rw [if_neg (by simpa [spI, spC] using h)] at h1
      rw [← h1]
theorem Rtm_con (l : List UInt8) (hl : l.length ≤ maxLen) : Con Try.prog 33 [.string (bs l)] [] (.string (bs (trimL l))) [] := by
  refine con_vc (E := ERtm) mixed (calls_envC cRtm_ok) (lok_envC _ _ _) (M := mRtm) (lm_two Rtm1_piece Rtm2_piece) (Rtm_vc l _) ?_
  have h1 : (trimF l).length ≤ l.length := (List.dropWhile_sublist _).length_le
  exact ⟨l, by unfold maxLen at hl; omega, rfl, fun _ _ => ⟨trimF l, by unfold maxLen at hl; omega, rfl, fun _ _ => ⟨rfl, trivial⟩⟩⟩
end Go.Proofs.Ytajfdcijpchjdaa.tk
