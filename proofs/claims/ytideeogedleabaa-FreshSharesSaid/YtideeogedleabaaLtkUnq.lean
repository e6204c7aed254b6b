/- What a quoted text stands for. -/
import Derived.Test.YtideeogedleabaaSz9
import Derived.Test.YtideeogedleabaaRows
import Derived.Test.YtideeogedleabaaLtkToken
import Derived.Test.YtideeogedleabaaLtokb_control
set_option maxRecDepth 20000
set_option linter.unusedSimpArgs false
set_option linter.unusedVariables false
namespace Go.Proofs.Ytideeogedleabaa.tk
open Go Go.Ev Go.Sy Go.RowKit Go.Proofs.Ytideeogedleabaa.gl
def cUn : FuncId → List Value → List Row → Option (Prop × Value × List Row)
  | 67, [.string s], [] => some ((L s).length ≤ maxLen, .bool (tokS s), [])
  | 76, [.int .u8 n], [] => some (Byt n, .bool (ctlI n), [])
  | _, _, _ => none
noncomputable abbrev EUn : Env := envC Try.prog cUn (fun f => Nat.beq f 67 || Nat.beq f 76)
def pUn : List Nat := [0, 1, 0, 1, 1, 1, 1, 1]
structure StUn where
  acc : List UInt8
  i : Nat
def slUn (b : List UInt8) (s : StUn) : List (Nat × Value) := [(4, .string (bs b)), (5, slc 0 s.acc.length), (6, .int .i64 (s.i : Nat))]
def rlUn (_ : List UInt8) (s : StUn) : List (Nat × Row) := [(0, bOwn s.acc)]
def wsUn (b : List UInt8) : List (Gate (List UInt8)) := [⟨.exit 0, fun a => unq b = some a, fun a => [(5, slc 0 a.length)], fun a => [(0, bOwn a)], 1⟩, ⟨.ret, fun _ => unq b = none, fun _ => [(2, .string (bs [])), (3, .bool false)], fun _ => [], 0⟩]
def specUn : Sy.Spec := specOf 0 1 64 (fun b : List UInt8 => b.length ≤ 16777000) (fun b => slUn b ⟨[], 0⟩) (fun b => rlUn b ⟨[], 0⟩) wsUn
def mUn := mOf [(69, pUn, specUn)]
theorem Un_round (b : List UInt8) (s : StUn) (Inv : StUn → Prop) (m : StUn → Nat) : mev EUn noM 60 69 (0 :: pUn) false (codeOf Try.prog 69 (0 :: pUn)) ⟨mkOv (slUn b s), 64, []⟩ none ⟨mkR (rlUn b s), 1⟩ (roundK 0 1 64 Inv m (slUn b) (rlUn b) (wsUn b) s) =
  (br (decide ((↑s.2 : Int) < Int.ofNat (List.length (Array.toList (ByteArray.data (bs b)))))) (br (decide ((0 : Int) <= (↑s.2 : Int) /\ (↑s.2 : Int) < (↑(List.length
  (Array.toList (ByteArray.data (bs b)))) : Int))) (br (byteAt (bs b) (Int.toNat (↑s.2 : Int)) == (34 : Int)) (∃ y : List UInt8, ((Eq (α := Option (List UInt8)) (unq b)
  (none)) /\ ((bs [] = ByteArray.mk #[]) /\ ((false = false) /\ True)))) (br (byteAt (bs b) (Int.toNat (↑s.2 : Int)) == (92 : Int)) (br (IntKind.wrap IntKind.i64 ((↑s.2 :
  Int) + (1 : Int)) == Int.ofNat (List.length (Array.toList (ByteArray.data (bs b))))) (∃ y : List UInt8, ((Eq (α := Option (List UInt8)) (unq b) (none)) /\ ((bs [] =
  ByteArray.mk #[]) /\ ((false = false) /\ True)))) (br (decide ((0 : Int) <= IntKind.wrap IntKind.i64 ((↑s.2 : Int) + (1 : Int)) /\ IntKind.wrap IntKind.i64 ((↑s.2 : Int) +
  (1 : Int)) < (↑(List.length (Array.toList (ByteArray.data (bs b)))) : Int))) ((((True /\ True) /\ (True /\ Byt (byteAt (bs b) (Int.toNat (IntKind.wrap IntKind.i64 ((↑s.2 :
  Int) + (1 : Int)))))))) /\ (br (ctlI (byteAt (bs b) (Int.toNat (IntKind.wrap IntKind.i64 ((↑s.2 : Int) + (1 : Int)))))) (∃ y : List UInt8, ((Eq (α := Option (List UInt8))
  (unq b) (none)) /\ ((bs [] = ByteArray.mk #[]) /\ ((false = false) /\ True)))) (br (decide ((0 : Int) <= IntKind.wrap IntKind.i64 ((↑s.2 : Int) + (1 : Int)) /\
  IntKind.wrap IntKind.i64 ((↑s.2 : Int) + (1 : Int)) < (↑(List.length (Array.toList (ByteArray.data (bs b)))) : Int))) (br (decide (List.length s.1 + 1 <= 16777216)) (br
  (decide (0 + List.length s.1 * 1 <= List.length (bCells s.1))) (∃ j : StUn, ((Inv j) /\ ((m j < m s) /\ ((bs b = bs b) /\ ((0 = 0) /\ ((List.length j.1 = List.length s.1 +
  1) /\ (((↑j.2 : Int) = IntKind.wrap IntKind.i64 (IntKind.wrap IntKind.i64 ((↑s.2 : Int) + (1 : Int)) + (1 : Int))) /\ ((Eq (α := List Value) (bCells j.1) (List.take
  (List.length s.1 * 1) (List.drop 0 (bCells s.1)) ++ [Value.int IntKind.u8 (byteAt (bs b) (Int.toNat (IntKind.wrap IntKind.i64 ((↑s.2 : Int) + (1 : Int)))))])) /\ ((Plain
  (bCells j.1)) /\ True))))))))) False) False) False))) False)) (br ((↑s.2 : Int) == Int.ofNat (List.length (Array.toList (ByteArray.data (bs b))))) (∃ y : List UInt8, ((Eq
  (α := Option (List UInt8)) (unq b) (none)) /\ ((bs [] = ByteArray.mk #[]) /\ ((false = false) /\ True)))) (br (decide ((0 : Int) <= (↑s.2 : Int) /\ (↑s.2 : Int) <
  (↑(List.length (Array.toList (ByteArray.data (bs b)))) : Int))) ((((True /\ True) /\ (True /\ Byt (byteAt (bs b) (Int.toNat (↑s.2 : Int)))))) /\ (br (ctlI (byteAt (bs b)
  (Int.toNat (↑s.2 : Int)))) (∃ y : List UInt8, ((Eq (α := Option (List UInt8)) (unq b) (none)) /\ ((bs [] = ByteArray.mk #[]) /\ ((false = false) /\ True)))) (br (decide
  ((0 : Int) <= (↑s.2 : Int) /\ (↑s.2 : Int) < (↑(List.length (Array.toList (ByteArray.data (bs b)))) : Int))) (br (decide (List.length s.1 + 1 <= 16777216)) (br (decide (0
  + List.length s.1 * 1 <= List.length (bCells s.1))) (∃ j : StUn, ((Inv j) /\ ((m j < m s) /\ ((bs b = bs b) /\ ((0 = 0) /\ ((List.length j.1 = List.length s.1 + 1) /\
  (((↑j.2 : Int) = IntKind.wrap IntKind.i64 ((↑s.2 : Int) + (1 : Int))) /\ ((Eq (α := List Value) (bCells j.1) (List.take (List.length s.1 * 1) (List.drop 0 (bCells s.1)) ++
  [Value.int IntKind.u8 (byteAt (bs b) (Int.toNat (↑s.2 : Int)))])) /\ ((Plain (bCells j.1)) /\ True))))))))) False) False) False))) False)))) False) (∃ y : List UInt8, ((Eq
  (α := Option (List UInt8)) (unq b) (some y)) /\ ((0 = 0) /\ ((List.length y = List.length s.1) /\ ((Eq (α := List Value) (bCells y) (bCells s.1)) /\ ((Plain (bCells y)) /\
  True))))))) := by kernel_rfl
theorem Un_vc (l v : List UInt8) (x : Bool) : mcall EUn mUn 60 69 [.string (bs l)] ⟨mkR (nums 0 []), 0⟩ (retIs 0 (.tuple #[.string (bs v), .bool x]) []) =
  ((((True /\ True) /\ (True /\ List.length (L (bs l)) <= 9223372036854775807))) /\ (br (tokS (bs l)) ((bs v = bs l) /\ ((x = true) /\ True)) (br (decide (Int.ofNat
  (List.length (Array.toList (ByteArray.data (bs l)))) < (2 : Int))) ((bs v = ByteArray.mk #[]) /\ ((x = false) /\ True)) (br (decide ((0 : Int) <= (0 : Int) /\ (0 : Int) <
  (↑(List.length (Array.toList (ByteArray.data (bs l)))) : Int))) (br (byteAt (bs l) 0 != (34 : Int)) ((bs v = ByteArray.mk #[]) /\ ((x = false) /\ True)) (br (decide ((0 :
  Int) <= IntKind.wrap IntKind.i64 (Int.ofNat (List.length (Array.toList (ByteArray.data (bs l)))) - (1 : Int)) /\ IntKind.wrap IntKind.i64 (Int.ofNat (List.length
  (Array.toList (ByteArray.data (bs l)))) - (1 : Int)) < (↑(List.length (Array.toList (ByteArray.data (bs l)))) : Int))) (br (byteAt (bs l) (Int.toNat (IntKind.wrap
  IntKind.i64 (Int.ofNat (List.length (Array.toList (ByteArray.data (bs l)))) - (1 : Int)))) != (34 : Int)) ((bs v = ByteArray.mk #[]) /\ ((x = false) /\ True)) (br (decide
  ((0 : Int) <= (1 : Int) /\ (1 : Int) <= IntKind.wrap IntKind.i64 (Int.ofNat (List.length (Array.toList (ByteArray.data (bs l)))) - (1 : Int)) /\ IntKind.wrap IntKind.i64
  (Int.ofNat (List.length (Array.toList (ByteArray.data (bs l)))) - (1 : Int)) <= (↑(List.length (Array.toList (ByteArray.data (bs l)))) : Int))) (∃ g : List UInt8,
  ((List.length g <= 16777000) /\ ((bs g = sub (bs l) 1 (Int.toNat (IntKind.wrap IntKind.i64 (Int.ofNat (List.length (Array.toList (ByteArray.data (bs l)))) - (1 : Int)))))
  /\ ((0 = 0) /\ (((0 : Int) = (0 : Int)) /\ ((Eq (α := List Value) ([]) ([])) /\ (∀ (side : Bool), (br (side) (∀ (y : List UInt8), ((unq g = some y) → (br (decide (0 +
  List.length y <= List.length (bCells y))) ((AllB (List.take (List.length y) (List.drop 0 (bCells y)))) /\ ((bs v = ByteArray.mk (Array.mk (List.map bOf (List.take
  (List.length y) (List.drop 0 (bCells y)))))) /\ ((x = true) /\ True))) False))) (∀ (y : List UInt8), ((unq g = none) → ((bs v = bs []) /\ ((x = false) /\ True))))))))))))
  False)) False)) False)))) := by kernel_rfl
theorem cUn_ok : ∀ f a rows p v news, cUn f a rows = some (p, v, news) → p → Con Try.prog f a rows v (rows ++ news) := by
  intro f a rows p v news h hp
  unfold cUn at h
  split at h <;> simp only [Option.some.injEq, Prod.mk.injEq, reduceCtorEq] at h <;> obtain ⟨rfl, rfl, rfl⟩ := h
  · exact Tok_con (L _) hp
  · obtain ⟨k, rfl⟩ := byt_nat hp
    exact control_con k
theorem Un_piece : PieceOk EUn 0 (69, pUn, specUn) := by
  refine piece_loop mixed (calls_envC cUn_ok) (lok_envC _ _ _) lm_none (n := 60) (by kernel_rfl) (fun _ : List UInt8 => (⟨[], 0⟩ : StUn)) (fun b s => s.i ≤ b.length ∧ s.acc.length ≤ s.i ∧ unq b = (unq (b.drop s.i)).map fun r => s.acc ++ r) (fun b s => b.length - s.i) (sl := slUn) (rl := rlUn) (fun b hg => ⟨Nat.zero_le _, Nat.le_refl _, by simp⟩) (fun b s hg hi => ?_)
  refine (Un_round b s _ _).mpr ?_
  obtain ⟨acc, i⟩ := s
  obtain ⟨h1, h2, h3⟩ := hi
  have hm : maxLen = 9223372036854775807 := by unfold maxLen; rfl
  simp only at h1 h2 h3
  simp only [ofNat_eq, toNat_cast, Nat.zero_add, Nat.add_zero, Nat.mul_one, List.drop_zero, bCells_len, bCells_drop, bCells_take, bCells_app, bCells_one, bCells_plain, List.length_replicate, List.length_append, List.length_take, List.length_drop, List.take_length, and_true, true_and, and_self, decide_true, List.length_nil, List.length_cons, Nat.sub_zero, dB_mk, dB_ro, List.take_zero, bs_d, bs_nil]
  refine br_if (fun h => br_dec (by omega) ?_) (fun h => ?_)
  rotate_left
  · rw [List.drop_eq_nil_of_le (by omega)] at h3
    exact ⟨acc, by rw [h3]; simp [unq], rfl, rfl⟩
  have hi : i < b.length := by omega
  rw [byteAt_bs hi]
  have w := i64_succ (show i < 9223372036854775807 by omega)
  have w2 := i64_succ (show i + 1 < 9223372036854775807 by omega)
  simp only [w, w2, toNat_cast]
  have hd := List.drop_eq_getElem_cons hi
  rw [hd] at h3
  obtain ⟨c, hc⟩ : ∃ c, c = b[i] := ⟨_, rfl⟩
  rw [← hc] at h3 ⊢
  have hB : ∀ n : Nat, n < 256 → ((c.toNat : Int) == (n : Int)) = true → c = UInt8.ofNat n := fun n hn h => (u8_nat hn).1 (by simpa using h)
  have hB' : ∀ n : Nat, n < 256 → ((c.toNat : Int) == (n : Int)) = false → c ≠ UInt8.ofNat n := fun n hn h e => by rw [(u8_nat hn).2 e] at h; simp at h
  have ctl : ∀ d : UInt8, ctlI (d.toNat : Int) = ctlN d.toNat := fun d => by unfold ctlI; rw [toNat_cast]
  refine br_intro (fun k1 => ⟨[], by rw [h3, unq_q _ _ (hB 34 (by omega) k1)]; rfl⟩) (fun k1 => ?_)
  have n34 : c ≠ 34 := hB' 34 (by omega) k1
  refine br_intro (fun k2 => ?_) (fun k2 => ?_)
  · have e92 : c = 92 := hB 92 (by omega) k2
    by_cases hr : i + 1 < b.length
    · have hd2 := List.drop_eq_getElem_cons hr
      rw [hd2, unq_b _ _ _ n34 e92] at h3
      have hx := byteAt_bs hr
      simp only [hx, ctl]
      refine br_nb (by simp; omega) (br_dec (by omega) ⟨u8_b _, br_intro (fun k3 => ⟨[], by rw [h3, if_pos k3]; rfl⟩) (fun k3 => br_dec (by omega) (br_dec (by omega) (br_dec (Nat.le_refl _) ?_)))⟩)
      rw [if_neg (by simp [k3])] at h3
      refine ⟨⟨acc ++ [b[i + 1]], i + 2⟩, ⟨by simp only; omega, by simp; omega, ?_⟩, by simp only; omega, by simp, rfl, ?_⟩
      · rw [h3, Option.map_map]; congr 1; funext r; simp
      · rw [bVal_eq, bCells_sing, bCells_app]
    · have hz : b.drop (i + 1) = [] := List.drop_eq_nil_of_le (by omega)
      rw [hz, unq_b0 _ n34 e92] at h3
      exact br_b (by simp; omega) ⟨[], by rw [h3]; rfl⟩
  · rw [unq_o _ _ n34 (hB' 92 (by omega) k2)] at h3
    refine br_nb (by simp; omega) (br_dec (by omega) ⟨u8_b _, ?_⟩)
    rw [ctl]
    refine br_intro (fun k3 => ⟨[], by rw [h3, if_pos k3]; rfl⟩) (fun k3 => br_dec (by omega) (br_dec (by omega) (br_dec (Nat.le_refl _) ?_)))
    rw [if_neg (by simp [k3])] at h3
    refine ⟨⟨acc ++ [c], i + 1⟩, ⟨by simp only; omega, by simp; omega, ?_⟩, by simp only; omega, by simp, rfl, ?_⟩
    · rw [h3, Option.map_map]; congr 1; funext r; simp
    · rw [bVal_eq, bCells_sing, bCells_app]
theorem Un_con (l : List UInt8) (hl : l.length ≤ 16777000) : Con Try.prog 69 [.string (bs l)] [] (.tuple #[.string (bs ((unqL l).getD [])), .bool (unqL l).isSome]) [] := by
  refine con_vc (E := EUn) mixed (calls_envC cUn_ok) (lok_envC _ _ _) (M := mUn) (lm_one Un_piece) (Un_vc l _ _) ?_
  simp only [ofNat_eq, toNat_cast, Nat.zero_add, Nat.add_zero, Nat.mul_one, List.drop_zero, bCells_len, bCells_drop, bCells_take, bCells_app, bCells_one, bCells_plain, List.length_replicate, List.length_append, List.length_take, List.length_drop, List.take_length, and_true, true_and, and_self, decide_true, List.length_nil, List.length_cons, Nat.sub_zero, dB_mk, dB_ro, List.take_zero, bs_d, bs_nil, strEq_bs, tokS_bs, bs_len]
  have hm : maxLen = 9223372036854775807 := by unfold maxLen; rfl
  have hbb : ∀ l : List UInt8, (⟨(List.map bOf (bCells l)).toArray⟩ : ByteArray) = bs l := fun l => by rw [bCells_bOf]; rfl
  refine ⟨by omega, br_intro (fun k1 => ?_) (fun k1 => ?_)⟩
  · have e : unqL l = some l := by unfold unqL; rw [if_pos k1]
    rw [e]; exact ⟨rfl, rfl⟩
  have e1 : unqL l = if l.length < 2 ∨ l.getD 0 0 ≠ 34 ∨ l.getD (l.length - 1) 0 ≠ 34 then none else unq ((l.drop 1).take (l.length - 2)) := by unfold unqL; rw [if_neg (by simp [k1])]
  have no : (l.length < 2 ∨ l.getD 0 0 ≠ 34 ∨ l.getD (l.length - 1) 0 ≠ 34) → bs ((unqL l).getD []) = bs [] ∧ (unqL l).isSome = false := fun h => by rw [e1, if_pos h]; exact ⟨rfl, rfl⟩
  refine br_if (fun k2 => no (.inl (by omega))) (fun k2 => ?_)
  have hl2 : 2 ≤ l.length := by omega
  have w : IntKind.i64.wrap ((l.length : Int) - 1) = ((l.length - 1 : Nat) : Int) := by rw [wr64_id (by unfold I64; omega)]; omega
  simp only [w, toNat_cast, byteAt_bs (show 0 < l.length by omega), byteAt_bs (show l.length - 1 < l.length by omega)]
  have g0 : l.getD 0 0 = l[0] := by rw [List.getD_eq_getElem?_getD, List.getElem?_eq_getElem (by omega)]; rfl
  have g1 : l.getD (l.length - 1) 0 = l[l.length - 1] := by rw [List.getD_eq_getElem?_getD, List.getElem?_eq_getElem (by omega)]; rfl
  have ne34 : ∀ c : UInt8, ((c.toNat : Int) != (34 : Int)) = true → c ≠ 34 := fun c h e => by subst e; simp at h
  have eq34 : ∀ c : UInt8, ((c.toNat : Int) != (34 : Int)) = false → c = 34 := fun c h => (u8_nat (n := 34) (by omega)).1 (by simpa using h)
  refine br_dec (by omega) (br_intro (fun k3 => no (.inr (.inl (by rw [g0]; exact ne34 _ k3)))) (fun k3 => br_dec (by omega) (br_intro (fun k4 => no (.inr (.inr (by rw [g1]; exact ne34 _ k4)))) (fun k4 => br_dec (by omega) ?_))))
  have e2 : unqL l = unq ((l.drop 1).take (l.length - 2)) := by
    rw [e1, if_neg]
    rw [g0, g1, eq34 _ k3, eq34 _ k4]; simp; omega
  refine ⟨(l.drop 1).take (l.length - 2), by simp; omega, by rw [sub_bs, show l.length - 1 - 1 = l.length - 2 by omega], br_side (fun y hy => br_dec (Nat.le_refl _) ⟨bCells_all _, ?_⟩) (fun y hy => ?_)⟩
  · rw [e2, hy, hbb]; exact ⟨rfl, rfl⟩
  · rw [e2, hy]; exact ⟨rfl, rfl⟩
end Go.Proofs.Ytideeogedleabaa.tk
