/- Is a text a token? -/
import Derived.Test.YtcjbpmphkmcmjaaSz9
import Derived.Test.YtcjbpmphkmcmjaaRows
import Derived.Test.YtcjbpmphkmcmjaaLtokb_tokenByte
set_option maxRecDepth 20000
set_option linter.unusedSimpArgs false
set_option linter.unusedVariables false
namespace Go.Proofs.Ytcjbpmphkmcmjaa.tk
open Go Go.Ev Go.Sy Go.RowKit Go.Proofs.Ytcjbpmphkmcmjaa.gl
def cTok : FuncId → List Value → List Row → Option (Prop × Value × List Row)
  | 65, [.int .u8 n], [] => some (Byt n, .bool (tkI n), [])
  | _, _, _ => none
noncomputable abbrev ETok : Env := envC Try.prog cTok (fun f => Nat.beq f 65)
def pTok : List Nat := [0, 1, 0, 1]
def slTok (l : List UInt8) (i : Nat) : List (Nat × Value) := [(0, .string (bs l)), (5, .int .i64 (l.length : Nat)), (6, .int .i64 (i : Nat))]
def wsTok (l : List UInt8) : List (Gate Unit) := [⟨.exit 0, fun _ => allTk l = true, fun _ => [(0, .string (bs l))], fun _ => [], 0⟩, ⟨.ret, fun _ => allTk l = false, fun _ => [(2, .bool false)], fun _ => [], 0⟩]
def specTok : Sy.Spec := specOf 0 0 17 (fun l : List UInt8 => l.length ≤ maxLen) (fun l => slTok l 0) (fun _ => []) wsTok
def mTok := mOf [(60, pTok, specTok)]
theorem Tok_round (l : List UInt8) (i : Nat) (Inv : Nat → Prop) (m : Nat → Nat) : mev ETok noM 60 60 (0 :: pTok) false (codeOf Try.prog 60 (0 :: pTok)) ⟨mkOv (slTok l i), 17, []⟩ none ⟨mkR [], 0⟩ (roundK 0 0 17 Inv m (slTok l) (fun _ => []) (wsTok l) i) =
  (br (decide ((↑i : Int) < (↑(List.length l) : Int))) (br (decide ((0 : Int) <= (↑i : Int) /\ (↑i : Int) < (↑(List.length (Array.toList (ByteArray.data (bs l)))) : Int)))
  ((((True /\ True) /\ (True /\ Byt (byteAt (bs l) (Int.toNat (↑i : Int)))))) /\ (br (!tkI (byteAt (bs l) (Int.toNat (↑i : Int)))) (∃ y : Unit, ((allTk l = false) /\ ((false
  = false) /\ True))) (∃ j : Nat, ((Inv j) /\ ((m j < m i) /\ ((bs l = bs l) /\ (((↑(List.length l) : Int) = (↑(List.length l) : Int)) /\ (((↑j : Int) = IntKind.wrap
  IntKind.i64 ((↑i : Int) + (1 : Int))) /\ True)))))))) False) (∃ y : Unit, ((allTk l = true) /\ ((bs l = bs l) /\ True)))) := by kernel_rfl
theorem Tok_vc (l : List UInt8) (v : Bool) : mcall ETok mTok 60 60 [.string (bs l)] ⟨mkR (nums 0 []), 0⟩ (retIs 0 (.bool v) []) =
  (∃ g : List UInt8, ((List.length g <= 9223372036854775807) /\ ((bs g = bs l) /\ (((↑(List.length g) : Int) = Int.ofNat (List.length (Array.toList (ByteArray.data (bs
  l))))) /\ (((0 : Int) = (0 : Int)) /\ (∀ (side : Bool), (br (side) (∀ (y : Unit), ((allTk g = true) → ((v = !strEq (bs g) (ByteArray.mk #[])) /\ True))) (∀ (y : Unit),
  ((allTk g = false) → ((v = false) /\ True)))))))))) := by kernel_rfl
theorem cTok_ok : ∀ f a rows p v news, cTok f a rows = some (p, v, news) → p → Con Try.prog f a rows v (rows ++ news) := by
  intro f a rows p v news h hp
  unfold cTok at h
  split at h <;> simp only [Option.some.injEq, Prod.mk.injEq, reduceCtorEq] at h <;> obtain ⟨rfl, rfl, rfl⟩ := h
  rename_i n
  obtain ⟨k, rfl⟩ := byt_nat hp
  exact tokenByte_con k
theorem Tok_piece : PieceOk ETok 0 (60, pTok, specTok) := by
  refine piece_loop mixed (calls_envC cTok_ok) (lok_envC _ _ _) lm_none (n := 60) (by kernel_rfl) (fun _ : List UInt8 => (0 : Nat)) (fun l i => i ≤ l.length ∧ allTk l = allTk (l.drop i)) (fun l i => l.length - i) (sl := slTok) (rl := fun _ _ => []) (fun l hg => ⟨Nat.zero_le _, rfl⟩) (fun l i hg hi => ?_)
  refine (Tok_round l i _ _).mpr ?_
  obtain ⟨h1, h2⟩ := hi
  have hm : maxLen = 9223372036854775807 := by unfold maxLen; rfl
  simp only [ofNat_eq, toNat_cast, Nat.zero_add, Nat.add_zero, Nat.mul_one, List.drop_zero, bCells_len, bCells_drop, bCells_take, bCells_app, bCells_one, bCells_plain, List.length_replicate, List.length_append, List.length_take, List.length_drop, List.take_length, and_true, true_and, and_self, decide_true, List.length_nil, List.length_cons, Nat.sub_zero, dB_mk, dB_ro, List.take_zero, bs_d]
  refine br_if (fun h => br_dec (by omega) ?_) (fun h => ?_)
  · have hi : i < l.length := by omega
    have h3 := allTk_drop hi
    rw [byteAt_bs hi]
    refine ⟨u8_b _, br_intro (fun h => ⟨(), ?_⟩) (fun h => ⟨i + 1, ⟨by omega, ?_⟩, by omega, (i64_succ (by omega)).symm⟩)⟩
    · rw [h2, h3]; simp only [tkI, toNat_cast] at h; simp at h; simp [h]
    · rw [h2, h3]; simp only [tkI, toNat_cast] at h; simp at h; simp [h]
  · refine ⟨(), ?_⟩
    rw [h2, List.drop_eq_nil_of_le (by omega)]; rfl
theorem Tok_con (l : List UInt8) (hl : l.length ≤ maxLen) : Con Try.prog 60 [.string (bs l)] [] (.bool (tokL l)) [] := by
  refine con_vc (E := ETok) mixed (calls_envC cTok_ok) (lok_envC _ _ _) (M := mTok) (lm_one Tok_piece) (Tok_vc l _) ?_
  refine ⟨l, by unfold maxLen at hl; omega, rfl, rfl, rfl, br_side (fun _ h => ⟨?_, trivial⟩) (fun _ h => ⟨?_, trivial⟩)⟩
  · show tokL l = !strEq (bs l) (bs [])
    rw [strEq_bs]; unfold tokL; rw [h]; cases l <;> rfl
  · unfold tokL; rw [h]; rfl
end Go.Proofs.Ytcjbpmphkmcmjaa.tk
