/- A text as a word: both ways of writing it. -/
import Derived.Test.YtnbfhihibgdgpaaGreatDoorSz9
import Derived.Test.YtnbfhihibgdgpaaGreatDoorRows
import Derived.Test.YtnbfhihibgdgpaaGreatDoorLtok
set_option maxRecDepth 20000
set_option linter.unusedSimpArgs false
set_option linter.unusedVariables false
namespace Go.Proofs.YtnbfhihibgdgpaaGreatDoor.sl
open Go Go.Ev Go.Sy Go.RowKit Go.Proofs.YtnbfhihibgdgpaaGreatDoor.gl Go.Proofs.YtnbfhihibgdgpaaGreatDoor.tk
theorem sl_ex {α : Type} (f : α) : ∃ g, g = f := ⟨f, rfl⟩
noncomputable def sealV {α : Type} (f : α) : α := Classical.choose (sl_ex f)
theorem sealV_eq {α : Type} (f : α) : sealV f = f := Classical.choose_spec (sl_ex f)
def codB (b : UInt8) : Bool := decide (b.toNat ≤ 32 ∨ 127 ≤ b.toNat ∨ b.toNat = 37 ∨ b.toNat = 61)
def hexd (k : Nat) : UInt8 := UInt8.ofNat (if k < 10 then 48 + k else 87 + k)
def wB (b : UInt8) : List UInt8 := if codB b = true then [37, hexd (b.toNat / 16), hexd (b.toNat % 16)] else [b]
def wordL (l : List UInt8) : List UInt8 := l.flatMap wB
noncomputable def codZ : Int → Bool := sealV fun n => codB (UInt8.ofNat n.toNat)
noncomputable def wordZ : ByteArray → List UInt8 := sealV fun s => wordL (L s)
noncomputable def eCod : EntM := entC 33 fun a r => match a, r with
  | [.int .u8 n], [] => some (0 ≤ n ∧ n < 256, .bool (codZ n), [])
  | _, _ => none
def pWo : List Nat := [0, 1, 0, 1, 1]
def slWo (s : List UInt8) (i : Nat) : List (Nat × Value) := [(0, .string (bs s)), (3, .slice (some ⟨0, 0, none⟩) (wordL (s.take i)).length 1), (6, .int .i64 (s.length : Nat)), (7, .int .i64 (i : Nat))]
def rlWo (s : List UInt8) (i : Nat) : List (Nat × Row) := [(0, bOwn (wordL (s.take i)))]
def wsWo (s : List UInt8) : List (Gate Unit) := [⟨.exit 0, fun _ => True, fun _ => [(3, .slice (some ⟨0, 0, none⟩) (wordL s).length 1)], fun _ => [(0, bOwn (wordL s))], 1⟩]
def specWo : Sy.Spec := specOf 0 1 35 (fun s : List UInt8 => s.length ≤ 4000) (fun s => slWo s 0) (fun s => rlWo s 0) wsWo
def mWo := mOf [(17, pWo, specWo)]
noncomputable def tWo : List EntM := [eCod]
noncomputable abbrev EtWo : Env := envT Tryz.prog tWo
theorem Cod_vc (n : Int) (b : Bool) : mcall E0 noM 60 33 [.int .u8 n] ⟨mkR (nums 0 []), 0⟩ (retIs 0 (.bool b) []) =
  (br (decide (n <= (32 : Int))) ((b = true) /\ True) (br (decide (n ≥ (127 : Int))) ((b = true) /\ True) (br (n == (37 : Int)) ((b = true) /\ True) ((b = (n == (61 : Int)))
  /\ True)))) := by kernel_rfl
theorem Wo_round (s : List UInt8) (i : Nat) (Inv : Nat → Prop) (m : Nat → Nat) : mev EtWo noM 60 17 (0 :: pWo) false (codeOf Tryz.prog 17 (0 :: pWo)) ⟨mkOv (slWo s i), 35, []⟩ none ⟨mkR (rlWo s i), 1⟩ (roundK 0 1 35 Inv m (slWo s) (rlWo s) (wsWo s) i) =
  (br (decide ((↑i : Int) < (↑(List.length s) : Int))) (br (decide ((0 : Int) <= (↑i : Int) /\ (↑i : Int) < (↑(List.length (Array.toList (ByteArray.data (bs s)))) : Int)))
  ((((True /\ True) /\ (True /\ (True /\ ((0 : Int) <= byteAt (bs s) (Int.toNat (↑i : Int)) /\ byteAt (bs s) (Int.toNat (↑i : Int)) < (256 : Int)))))) /\ (br (codZ (byteAt
  (bs s) (Int.toNat (↑i : Int)))) (br (decide ((0 : Int) <= (↑i : Int) /\ (↑i : Int) < (↑(List.length (Array.toList (ByteArray.data (bs s)))) : Int))) (br (decide ((0 : Int)
  <= ishr IntKind.u8 (byteAt (bs s) (Int.toNat (↑i : Int))) (4 : Int) /\ ishr IntKind.u8 (byteAt (bs s) (Int.toNat (↑i : Int))) (4 : Int) < (16 : Int))) (br (decide ((0 :
  Int) <= (↑i : Int) /\ (↑i : Int) < (↑(List.length (Array.toList (ByteArray.data (bs s)))) : Int))) (br (decide ((0 : Int) <= iand IntKind.u8 (byteAt (bs s) (Int.toNat (↑i
  : Int))) (15 : Int) /\ iand IntKind.u8 (byteAt (bs s) (Int.toNat (↑i : Int))) (15 : Int) < (16 : Int))) (br (decide (List.length (wordL (List.take i s)) + 3 <= 16777216))
  (br (decide (0 + List.length (wordL (List.take i s)) * 1 <= List.length (bCells (wordL (List.take i s))))) (∃ j : Nat, ((Inv j) /\ ((m j < m i) /\ ((bs s = bs s) /\ ((0 =
  0) /\ ((List.length (wordL (List.take j s)) = List.length (wordL (List.take i s)) + 3) /\ (((↑(List.length s) : Int) = (↑(List.length s) : Int)) /\ (((↑j : Int) =
  IntKind.wrap IntKind.i64 ((↑i : Int) + (1 : Int))) /\ ((Eq (α := List Value) (bCells (wordL (List.take j s))) (List.take (List.length (wordL (List.take i s)) * 1)
  (List.drop 0 (bCells (wordL (List.take i s)))) ++ [Value.int IntKind.u8 (37 : Int), Value.int IntKind.u8 (byteAt (ByteArray.mk #[48, 49, 50, 51, 52, 53, 54, 55, 56, 57,
  97, 98, 99, 100, 101, 102]) (Int.toNat (ishr IntKind.u8 (byteAt (bs s) (Int.toNat (↑i : Int))) (4 : Int)))), Value.int IntKind.u8 (byteAt (ByteArray.mk #[48, 49, 50, 51,
  52, 53, 54, 55, 56, 57, 97, 98, 99, 100, 101, 102]) (Int.toNat (iand IntKind.u8 (byteAt (bs s) (Int.toNat (↑i : Int))) (15 : Int))))])) /\ ((Plain (bCells (wordL
  (List.take j s)))) /\ True)))))))))) False) False) False) False) False) False) (br (decide ((0 : Int) <= (↑i : Int) /\ (↑i : Int) < (↑(List.length (Array.toList
  (ByteArray.data (bs s)))) : Int))) (br (decide (List.length (wordL (List.take i s)) + 1 <= 16777216)) (br (decide (0 + List.length (wordL (List.take i s)) * 1 <=
  List.length (bCells (wordL (List.take i s))))) (∃ j : Nat, ((Inv j) /\ ((m j < m i) /\ ((bs s = bs s) /\ ((0 = 0) /\ ((List.length (wordL (List.take j s)) = List.length
  (wordL (List.take i s)) + 1) /\ (((↑(List.length s) : Int) = (↑(List.length s) : Int)) /\ (((↑j : Int) = IntKind.wrap IntKind.i64 ((↑i : Int) + (1 : Int))) /\ ((Eq (α :=
  List Value) (bCells (wordL (List.take j s))) (List.take (List.length (wordL (List.take i s)) * 1) (List.drop 0 (bCells (wordL (List.take i s)))) ++ [Value.int IntKind.u8
  (byteAt (bs s) (Int.toNat (↑i : Int)))])) /\ ((Plain (bCells (wordL (List.take j s)))) /\ True)))))))))) False) False) False))) False) (∃ y : Unit, ((True) /\ ((0 = 0) /\
  ((List.length (wordL s) = List.length (wordL (List.take i s))) /\ ((Eq (α := List Value) (bCells (wordL s)) (bCells (wordL (List.take i s)))) /\ ((Plain (bCells (wordL
  s))) /\ True))))))) := by kernel_rfl
theorem Wo_vc (s : List UInt8) : mcall EtWo mWo 60 17 [.string (bs s)] ⟨mkR (nums 0 []), 0⟩ (retIs 0 (.slice (some ⟨0, 0, none⟩) (wordL s).length 1) [bOwn (wordL s)]) =
  (∃ g : List UInt8, ((List.length g <= 4000) /\ ((bs g = bs s) /\ ((0 = 0) /\ (((↑(List.length g) : Int) = Int.ofNat (List.length (Array.toList (ByteArray.data (bs s)))))
  /\ (((0 : Int) = (0 : Int)) /\ ((Eq (α := List Value) ([]) ([])) /\ (∀ (y : Unit), ((True) → ((0 = 0) /\ ((List.length (wordL s) = List.length (wordL g)) /\ ((Eq (α :=
  List Value) (bCells (wordL s)) (bCells (wordL g))) /\ ((Plain (bCells (wordL s))) /\ True))))))))))))) := by kernel_rfl
theorem Cod_con (n : Int) (h : 0 ≤ n ∧ n < 256) : Con Tryz.prog 33 [.int .u8 n] [] (.bool (codB (UInt8.ofNat n.toNat))) [] := by
  refine con_vc (E := E0) mixed (calls_envN _) (lok_envN _) (M := noM) lm_none (Cod_vc n _) ?_
  simp only [ofNat_eq, toNat_cast, Nat.zero_add, Nat.add_zero, Nat.mul_one, List.drop_zero, bCells_len, bCells_drop, bCells_take, bCells_app, bCells_one, bCells_plain, List.length_replicate, List.length_append, List.length_take, List.length_drop, List.take_length, and_true, true_and, and_self, decide_true, List.length_nil, List.length_cons, Nat.sub_zero, dB_mk, dB_ro, List.take_zero]
  have e : (UInt8.ofNat n.toNat).toNat = n.toNat := u8_toNat_ofNat (by omega)
  unfold codB
  rw [e]
  refine br_if (fun h1 => decide_eq_true (by omega)) fun h1 => br_if (fun h2 => decide_eq_true (by omega)) fun h2 => ?_
  by_cases h3 : n = 37
  · rw [h3]; exact br_b rfl rfl
  · refine br_nb (by simp [h3]) ?_
    by_cases h4 : n = 61
    · rw [h4]; rfl
    · rw [show (n == 61) = false by simp [h4]]; exact decide_eq_false (by omega)
theorem eCod_ok : EntOk Tryz.prog eCod := entC_ok (by
  intro a rows p v news h hp
  split at h <;> simp only [Option.some.injEq, Prod.mk.injEq, reduceCtorEq] at h
  obtain ⟨rfl, rfl, rfl⟩ := h
  unfold codZ; rw [sealV_eq]
  exact Cod_con _ hp)
theorem tWo_ok : ∀ x ∈ tWo, EntOk Tryz.prog x := all_cons eCod_ok (all_nil)
def dig16 : ByteArray := ⟨#[48, 49, 50, 51, 52, 53, 54, 55, 56, 57, 97, 98, 99, 100, 101, 102]⟩
def ok16 (n : Nat) : Bool := decide (0 ≤ ishr .u8 (n : Int) 4) && (decide (ishr .u8 (n : Int) 4 < 16) && (decide (0 ≤ iand .u8 (n : Int) 15) && (decide (iand .u8 (n : Int) 15 < 16) && (decide (byteAt dig16 (ishr .u8 (n : Int) 4).toNat = ((hexd (n / 16)).toNat : Int)) && decide (byteAt dig16 (iand .u8 (n : Int) 15).toNat = ((hexd (n % 16)).toNat : Int))))))
theorem all16 : (List.range 256).all ok16 = true := by decide +kernel
theorem of16 (b : UInt8) : (0 ≤ ishr .u8 (b.toNat : Int) 4 ∧ ishr .u8 (b.toNat : Int) 4 < 16) ∧ (0 ≤ iand .u8 (b.toNat : Int) 15 ∧ iand .u8 (b.toNat : Int) 15 < 16) ∧ byteAt dig16 (ishr .u8 (b.toNat : Int) 4).toNat = ((hexd (b.toNat / 16)).toNat : Int) ∧ byteAt dig16 (iand .u8 (b.toNat : Int) 15).toNat = ((hexd (b.toNat % 16)).toNat : Int) := by
  have h := List.all_eq_true.1 all16 b.toNat (List.mem_range.2 b.toNat_lt)
  simp only [ok16, Bool.and_eq_true, decide_eq_true_eq] at h
  exact ⟨⟨h.1, h.2.1⟩, ⟨h.2.2.1, h.2.2.2.1⟩, h.2.2.2.2.1, h.2.2.2.2.2⟩
theorem word_succ (s : List UInt8) (i : Nat) (h : i < s.length) : wordL (s.take (i + 1)) = wordL (s.take i) ++ wB s[i] := by
  unfold wordL
  rw [List.take_succ_eq_append_getElem h, List.flatMap_append]
  simp
theorem word_le (s : List UInt8) : (wordL s).length ≤ 3 * s.length := by
  induction s with
  | nil => simp [wordL]
  | cons b s ih =>
    have e : wordL (b :: s) = wB b ++ wordL s := rfl
    have : (wB b).length ≤ 3 := by unfold wB; split <;> simp
    rw [e, List.length_append, List.length_cons]; omega
theorem take_le (s : List UInt8) (i : Nat) (h : s.length ≤ 4000) : (wordL (s.take i)).length ≤ 12000 := by
  have := word_le (s.take i)
  rw [List.length_take] at this; omega
theorem wo_next (s : List UInt8) (i : Nat) (hi : i < s.length) (c : Bool) (hc : codB s[i] = c) :
    (c = true → (wordL (s.take (i + 1))).length = (wordL (s.take i)).length + 3 ∧ bCells (wordL (s.take (i + 1))) = bCells (wordL (s.take i)) ++ [.int .u8 37, .int .u8 (byteAt dig16 (ishr .u8 (s[i].toNat : Int) 4).toNat), .int .u8 (byteAt dig16 (iand .u8 (s[i].toNat : Int) 15).toNat)]) ∧
    (c = false → (wordL (s.take (i + 1))).length = (wordL (s.take i)).length + 1 ∧ bCells (wordL (s.take (i + 1))) = bCells (wordL (s.take i)) ++ [.int .u8 (s[i].toNat : Int)]) := by
  obtain ⟨_, _, q1, q2⟩ := of16 s[i]
  refine ⟨fun h => ?_, fun h => ?_⟩
  · have e : wB s[i] = [37, hexd (s[i].toNat / 16), hexd (s[i].toNat % 16)] := by unfold wB; rw [hc, h, if_pos rfl]
    rw [word_succ s i hi, e, q1, q2]
    refine ⟨by simp, ?_⟩
    simp [bCells]
    exact ⟨rfl, rfl, rfl⟩
  · have e : wB s[i] = [s[i]] := by unfold wB; rw [hc, h, if_neg (by simp)]
    rw [word_succ s i hi, e]
    refine ⟨by simp, ?_⟩
    simp [bCells]
    rfl
theorem Wo_piece : PieceOk EtWo 0 (17, pWo, specWo) := by
  refine piece_loop mixed (calls_envT tWo_ok) (lok_envT _ _) lm_none (n := 60) (by kernel_rfl) (fun _ => (0 : Nat)) (fun s i => i ≤ s.length) (fun s i => s.length - i) (sl := slWo) (rl := rlWo) (fun s hg => Nat.zero_le _) (fun s i hg hi => ?_)
  refine (Wo_round s i _ _).mpr ?_
  have hg : s.length ≤ 4000 := hg
  have hL : (bs s).data.toList.length = s.length := rfl
  have eD : (⟨#[48, 49, 50, 51, 52, 53, 54, 55, 56, 57, 97, 98, 99, 100, 101, 102]⟩ : ByteArray) = dig16 := rfl
  simp only [ofNat_eq, toNat_cast, Nat.zero_add, Nat.add_zero, Nat.mul_one, List.drop_zero, bCells_len, bCells_drop, bCells_take, bCells_app, bCells_one, bCells_plain, List.length_replicate, List.length_append, List.length_take, List.length_drop, List.take_length, and_true, true_and, and_self, decide_true, List.length_nil, List.length_cons, Nat.sub_zero, dB_mk, dB_ro, List.take_zero, hL, eD]
  refine br_if (fun h => br_dec (by omega) ?_) (fun h => ?_)
  · have h1 : i < s.length := by omega
    have hb : byteAt (bs s) i = (s[i].toNat : Int) := byteAt_bs h1
    have w1 : IntKind.i64.wrap ((i : Int) + 1) = ((i + 1 : Nat) : Int) := by rw [wr64_id (by unfold I64; omega)]; omega
    have hlt := s[i].toNat_lt
    obtain ⟨p1, p2, _, _⟩ := of16 s[i]
    have hle := take_le s i hg
    have hz : codZ (s[i].toNat : Int) = codB s[i] := by
      unfold codZ; rw [sealV_eq]
      simp
    obtain ⟨n3, n1⟩ := wo_next s i h1 _ rfl
    rw [hb, hz, w1]
    refine ⟨⟨by omega, by omega⟩, br_intro (fun hc => ?_) (fun hc => ?_)⟩
    · obtain ⟨k1, k2⟩ := n3 hc
      exact br_dec (by omega) (br_dec p1 (br_dec (by omega) (br_dec p2 (br_dec (by omega) (br_dec (Nat.le_refl _) ⟨i + 1, by omega, by omega, k1, rfl, k2⟩)))))
    · obtain ⟨k1, k2⟩ := n1 hc
      exact br_dec (by omega) (br_dec (by omega) (br_dec (Nat.le_refl _) ⟨i + 1, by omega, by omega, k1, rfl, k2⟩))
  · have : i = s.length := by omega
    subst this
    rw [List.take_length]; exact ⟨(), rfl, rfl⟩
theorem Wo_con (s : List UInt8) (h : s.length ≤ 4000) : Con Tryz.prog 17 [.string (bs s)] [] (.slice (some ⟨0, 0, none⟩) (wordL s).length 1) [bOwn (wordL s)] := by
  refine con_vc (E := EtWo) mixed (calls_envT tWo_ok) (lok_envT _ _) (M := mWo) (lm_one Wo_piece) (Wo_vc s) ?_
  simp only [ofNat_eq, toNat_cast, Nat.zero_add, Nat.add_zero, Nat.mul_one, List.drop_zero, bCells_len, bCells_drop, bCells_take, bCells_app, bCells_one, bCells_plain, List.length_replicate, List.length_append, List.length_take, List.length_drop, List.take_length, and_true, true_and, and_self, decide_true, List.length_nil, List.length_cons, Nat.sub_zero, dB_mk, dB_ro, List.take_zero]
  exact ⟨s, h, rfl, rfl, fun _ _ => ⟨rfl, rfl⟩⟩
theorem br_ifne {a n : Int} {p q : Prop} (h : a ≠ n → p) (k : a = n → q) : br (a != n) p q := by
  by_cases hP : a = n
  · rw [show (a != n) = false by simp [hP]]; exact k hP
  · rw [show (a != n) = true by simp [hP]]; exact h hP
end Go.Proofs.YtnbfhihibgdgpaaGreatDoor.sl
