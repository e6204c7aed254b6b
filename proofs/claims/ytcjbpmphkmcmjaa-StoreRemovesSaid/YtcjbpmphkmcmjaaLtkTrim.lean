/- A text without blanks at its ends. -/
import Derived.Test.YtcjbpmphkmcmjaaSz9
import Derived.Test.YtcjbpmphkmcmjaaRows
import Derived.Test.YtcjbpmphkmcmjaaLtokb_space
set_option maxRecDepth 20000
set_option linter.unusedSimpArgs false
set_option linter.unusedVariables false
namespace Go.Proofs.Ytcjbpmphkmcmjaa.tk
open Go Go.Ev Go.Sy Go.RowKit Go.Proofs.Ytcjbpmphkmcmjaa.gl
def cTrm : FuncId → List Value → List Row → Option (Prop × Value × List Row)
  | 62, [.int .u8 n], [] => some (Byt n, .bool (spI n), [])
  | _, _, _ => none
noncomputable abbrev ETrm : Env := envC Try.prog cTrm (fun f => Nat.beq f 62)
def pTrm1 : List Nat := [0, 0, 1]
def pTrm2 : List Nat := [0, 0, 1, 1]
def slTrm (_ s : List UInt8) : List (Nat × Value) := [(0, .string (bs s))]
def wsTrm1 (l : List UInt8) : List (Gate Unit) := [⟨.exit 0, fun _ => True, fun _ => [(0, .string (bs (trimF l)))], fun _ => [], 0⟩]
def wsTrm2 (l : List UInt8) : List (Gate Unit) := [⟨.exit 2, fun _ => True, fun _ => [(0, .string (bs (trimB l)))], fun _ => [], 0⟩]
def specTrm1 : Sy.Spec := specOf 0 0 28 (fun l : List UInt8 => l.length ≤ maxLen) (fun l => slTrm l l) (fun _ => []) wsTrm1
def specTrm2 : Sy.Spec := specOf 0 0 28 (fun l : List UInt8 => l.length ≤ maxLen) (fun l => slTrm l l) (fun _ => []) wsTrm2
def mTrm := mOf [(55, pTrm1, specTrm1), (55, pTrm2, specTrm2)]
theorem Trm1_round (l s : List UInt8) (Inv : List UInt8 → Prop) (m : List UInt8 → Nat) : mev ETrm noM 60 55 (0 :: pTrm1) false (codeOf Try.prog 55 (0 :: pTrm1)) ⟨mkOv (slTrm l s), 28, []⟩ none ⟨mkR [], 0⟩ (roundK 0 0 28 Inv m (slTrm l) (fun _ => []) (wsTrm1 l) s) =
  let z1 := (↑(List.length (Array.toList (ByteArray.data (bs s)))) : Int); (br (!strEq (bs s) (ByteArray.mk #[])) (br (decide ((0 : Int) <= (0 : Int) /\ (0 : Int) < z1))
  ((((True /\ True) /\ (True /\ Byt (byteAt (bs s) 0)))) /\ (br (spI (byteAt (bs s) 0)) (br (decide ((0 : Int) <= (1 : Int) /\ (1 : Int) <= z1 /\ z1 <= z1)) (∃ j : List
  UInt8, ((Inv j) /\ ((m j < m s) /\ ((bs j = sub (bs s) 1 (Int.toNat z1)) /\ True)))) False) (∃ y : Unit, ((True) /\ ((bs (trimF l) = bs s) /\ True))))) False) (∃ y : Unit,
  ((True) /\ ((bs (trimF l) = bs s) /\ True)))) := by kernel_rfl
theorem Trm2_round (l s : List UInt8) (Inv : List UInt8 → Prop) (m : List UInt8 → Nat) : mev ETrm noM 60 55 (0 :: pTrm2) false (codeOf Try.prog 55 (0 :: pTrm2)) ⟨mkOv (slTrm l s), 28, []⟩ none ⟨mkR [], 0⟩ (roundK 0 0 28 Inv m (slTrm l) (fun _ => []) (wsTrm2 l) s) =
  let z1 := (Int.ofNat (List.length (Array.toList (ByteArray.data (bs s)))) - (1 : Int)); let z2 := (↑(List.length (Array.toList (ByteArray.data (bs s)))) : Int); let z3 :=
  (byteAt (bs s) (Int.toNat (IntKind.wrap IntKind.i64 z1))); (br (!strEq (bs s) (ByteArray.mk #[])) (br (decide ((0 : Int) <= IntKind.wrap IntKind.i64 z1 /\ IntKind.wrap
  IntKind.i64 z1 < z2)) ((((True /\ True) /\ (True /\ Byt z3))) /\ (br (spI z3) (br (decide ((0 : Int) <= (↑0 : Int) /\ (0 : Int) <= IntKind.wrap IntKind.i64 z1 /\
  IntKind.wrap IntKind.i64 z1 <= z2)) (∃ j : List UInt8, ((Inv j) /\ ((m j < m s) /\ ((bs j = sub (bs s) 0 (Int.toNat (IntKind.wrap IntKind.i64 z1))) /\ True)))) False) (∃ y
  : Unit, ((True) /\ ((bs (trimB l) = bs s) /\ True))))) False) (∃ y : Unit, ((True) /\ ((bs (trimB l) = bs s) /\ True)))) := by kernel_rfl
theorem Trm_vc (l : List UInt8) (v : List UInt8) : mcall ETrm mTrm 60 55 [.string (bs l)] ⟨mkR (nums 0 []), 0⟩ (retIs 0 (.string (bs v)) []) =
  (∃ g : List UInt8, ((List.length g <= 9223372036854775807) /\ ((bs g = bs l) /\ (∀ (y : Unit), ((True) → (∃ g2 : List UInt8, ((List.length g2 <= 9223372036854775807) /\
  ((bs g2 = bs (trimF g)) /\ (∀ (y2 : Unit), ((True) → ((bs v = bs (trimB g2)) /\ True))))))))))) := by kernel_rfl
theorem cTrm_ok : ∀ f a rows p v news, cTrm f a rows = some (p, v, news) → p → Con Try.prog f a rows v (rows ++ news) := by
  intro f a rows p v news h hp
  unfold cTrm at h
  split at h <;> simp only [Option.some.injEq, Prod.mk.injEq, reduceCtorEq] at h <;> obtain ⟨rfl, rfl, rfl⟩ := h
  rename_i n
  obtain ⟨k, rfl⟩ := byt_nat hp
  exact space_con k
theorem Trm1_piece : PieceOk ETrm 0 (55, pTrm1, specTrm1) := by
  refine piece_loop mixed (calls_envC cTrm_ok) (lok_envC _ _ _) lm_none (n := 60) (by kernel_rfl) (fun l : List UInt8 => l) (fun l s => trimF s = trimF l ∧ s.length ≤ l.length) (fun _ s => s.length) (sl := slTrm) (rl := fun _ _ => []) (fun l hg => ⟨rfl, Nat.le_refl _⟩) (fun l s hg hi => ?_)
  refine (Trm1_round l s _ _).mpr ?_
  obtain ⟨h1, h2⟩ := hi
  have hm : maxLen = 9223372036854775807 := by unfold maxLen; rfl
  simp only [ofNat_eq, toNat_cast, Nat.zero_add, Nat.add_zero, Nat.mul_one, List.drop_zero, bCells_len, bCells_drop, bCells_take, bCells_app, bCells_one, bCells_plain, List.length_replicate, List.length_append, List.length_take, List.length_drop, List.take_length, and_true, true_and, and_self, decide_true, List.length_nil, List.length_cons, Nat.sub_zero, dB_mk, dB_ro, List.take_zero, bs_d, bs_nil, strEq_bs]
  cases s with
  | nil => refine br_nb (by simp) ⟨(), ?_⟩; rw [← h1]; rfl
  | cons c r =>
    have hb : byteAt (bs (c :: r)) (Int.toNat 0) = c.toNat := rfl
    have hb0 : byteAt (bs (c :: r)) 0 = c.toNat := rfl
    have hs : sub (bs (c :: r)) (Int.toNat 1) (c :: r).length = bs r := by rw [sub_bs]; simp
    simp only [hb, hb0, hs]
    simp only [List.length_cons] at *
    refine br_b (by first | (simp; done) | (simp; omega)) (br_dec (by omega) ⟨u8_b _, br_intro (fun h => br_dec (by omega) ⟨r, ⟨?_, by omega⟩, by omega, ?_⟩) (fun h => ⟨(), ?_⟩)⟩)
    · rw [← h1]; unfold trimF; rw [List.dropWhile_cons_of_pos]; simpa [spI, spC, hb0] using h
    · exact congrArg bs (by simp [bs_d])
    · refine congrArg bs ?_
      rw [← h1]; unfold trimF; rw [List.dropWhile_cons_of_neg]; simpa [spI, spC, hb0] using h
theorem Trm2_piece : PieceOk ETrm 0 (55, pTrm2, specTrm2) := by
  refine piece_loop mixed (calls_envC cTrm_ok) (lok_envC _ _ _) lm_none (n := 60) (by kernel_rfl) (fun l : List UInt8 => l) (fun l s => trimB s = trimB l ∧ s.length ≤ l.length) (fun _ s => s.length) (sl := slTrm) (rl := fun _ _ => []) (fun l hg => ⟨rfl, Nat.le_refl _⟩) (fun l s hg hi => ?_)
  refine (Trm2_round l s _ _).mpr ?_
  obtain ⟨h1, h2⟩ := hi
  have hm : maxLen = 9223372036854775807 := by unfold maxLen; rfl
  simp only [ofNat_eq, toNat_cast, Nat.zero_add, Nat.add_zero, Nat.mul_one, List.drop_zero, bCells_len, bCells_drop, bCells_take, bCells_app, bCells_one, bCells_plain, List.length_replicate, List.length_append, List.length_take, List.length_drop, List.take_length, and_true, true_and, and_self, decide_true, List.length_nil, List.length_cons, Nat.sub_zero, dB_mk, dB_ro, List.take_zero, bs_d, bs_nil, strEq_bs]
  rcases List.eq_nil_or_concat s with rfl | ⟨r, c, rfl⟩
  · refine br_nb (by simp) ⟨(), ?_⟩; rw [← h1]; rfl
  · rw [List.concat_eq_append] at *
    have hl : (r ++ [c]).length = r.length + 1 := by simp
    have w : IntKind.i64.wrap (((r.length + 1 : Nat) : Int) - 1) = (r.length : Nat) := by rw [wr64_id (by unfold I64; omega)]; omega
    have hb : byteAt (bs (r ++ [c])) r.length = c.toNat := by rw [byteAt_bs (by simp)]; simp
    have hs : sub (bs (r ++ [c])) (Int.toNat 0) r.length = bs r := by rw [sub_bs]; simp
    have hs2 : sub (bs (r ++ [c])) 0 r.length = bs r := hs
    have ht : trimB (r ++ [c]) = if spC c then trimB r else r ++ [c] := by
      unfold trimB; rw [List.reverse_append, List.reverse_singleton, List.singleton_append, List.dropWhile_cons]
      split <;> simp
    rw [hl] at h2
    simp only [hl, w, hb, hs, hs2, toNat_cast]
    rw [ht] at h1
    refine br_b (by first | (simp; done) | (simp; omega)) (br_dec (by omega) ⟨u8_b _, br_intro (fun h => br_dec (by omega) ⟨r, ⟨?_, by omega⟩, by omega, ?_⟩) (fun h => ⟨(), ?_⟩)⟩)
    · rw [if_pos (by simpa [spI, spC] using h)] at h1; exact h1
    · first | rfl | exact congrArg bs (by simp [bs_d])
    · rw [if_neg (by simpa [spI, spC] using h)] at h1
      rw [← h1]
theorem Trm_con (l : List UInt8) (hl : l.length ≤ maxLen) : Con Try.prog 55 [.string (bs l)] [] (.string (bs (trimL l))) [] := by
  refine con_vc (E := ETrm) mixed (calls_envC cTrm_ok) (lok_envC _ _ _) (M := mTrm) (lm_two Trm1_piece Trm2_piece) (Trm_vc l _) ?_
  have h1 : (trimF l).length ≤ l.length := (List.dropWhile_sublist _).length_le
  exact ⟨l, by unfold maxLen at hl; omega, rfl, fun _ _ => ⟨trimF l, by unfold maxLen at hl; omega, rfl, fun _ _ => ⟨rfl, trivial⟩⟩⟩
end Go.Proofs.Ytcjbpmphkmcmjaa.tk
