/- The law: what is lowered, trimmed, stays when it is so again; elements that are split off are trimmed. -/
import Derived.Test.YtllpeacofilbcaaSz9
import Derived.Test.YtllpeacofilbcaaRows
import Derived.Test.YtllpeacofilbcaaLtkSplit
import Derived.Test.YtllpeacofilbcaaLtkToken
import Derived.Test.YtllpeacofilbcaaLtkLower
import Derived.Test.YtllpeacofilbcaaLtkShort
import Derived.Test.YtllpeacofilbcaaLtkfacts
set_option linter.unusedSimpArgs false
set_option linter.unusedVariables false
namespace Go.Proofs.Ytllpeacofilbcaa.tk
open Go Go.Ev Go.Sy Go.RowKit Go.Proofs.Ytllpeacofilbcaa.gl
def elS (s : ByteArray) : List (List UInt8) := elSp (L s)
def elN (s : ByteArray) : Nat := (elS s).length
def elC (s : ByteArray) : List Value := gC enS (elS s)
def okS (s : ByteArray) : Bool := okSp (L s)
def cTr : FuncId → List Value → List Row → Option (Prop × Value × List Row)
  | 23, [.string s], [] => some ((L s).length ≤ maxLen, .string (trimS s), [])
  | 22, [.string s], [] => some ((L s).length ≤ maxLen, .string (lowS s), [])
  | 21, [.string s], [] => some ((L s).length ≤ maxLen, .bool (tokS s), [])
  | 20, [.string s], [] => some ((L s).length ≤ maxLen, .string (shortS s), [])
  | 9, [.string s], [] => some ((L s).length ≤ 16777000, .tuple #[.slice (some ⟨0, 0, none⟩) (elN s) 1, .bool (okS s)], [⟨elC s, false, .cells true⟩])
  | 3, [], [] => some (True, .bool true, [])
  | _, _, _ => none
def kTr (f : FuncId) : Bool := Nat.beq f 23 || Nat.beq f 22 || Nat.beq f 21 || Nat.beq f 9 || Nat.beq f 20 || Nat.beq f 3
noncomputable abbrev ETr : Env := envC Try.prog cTr kTr
structure GTr where
  e : List (List UInt8)
  ok : Bool
def pTr : List Nat := [0, 1, 0, 1, 1, 1, 1, 1]
def slTr (g : GTr) (i : Nat) : List (Nat × Value) := [(5, .slice (some ⟨0, 0, none⟩) g.e.length 1), (6, .bool g.ok), (7, .int .i64 (i : Nat))]
def rlTr (g : GTr) : List (Nat × Row) := [(0, gOwn enS g.e)]
def wsTr (g : GTr) : List (Gate Unit) := [⟨.exit 0, fun _ => True, fun _ => [(5, .slice (some ⟨0, 0, none⟩) g.e.length 1), (6, .bool g.ok)], fun _ => rlTr g, 1⟩]
def specTr : Sy.Spec := specOf 0 1 82 (fun g : GTr => g.e.length ≤ 16777216 ∧ ∀ x ∈ g.e, x ≠ [] ∧ trimL x = x ∧ x.length ≤ 16777216) (fun g => slTr g 0) (fun g => rlTr g) wsTr
def mTr := mOf [(7, pTr, specTr)]
theorem Tr_round (g : GTr) (i : Nat) (Inv : Nat → Prop) (m : Nat → Nat) : mev ETr noM 60 7 (0 :: pTr) false (codeOf Try.prog 7 (0 :: pTr)) ⟨mkOv (slTr g i), 82, []⟩ none ⟨mkR (rlTr g), 1⟩ (roundK 0 1 82 Inv m (slTr g) (fun _ => rlTr g) (wsTr g) i) =
  (br (decide ((↑i : Int) < Int.ofNat (List.length g.1)))
   (br (decide ((0 : Int) ≤ (↑i : Int) ∧ (↑i : Int) < (↑(List.length g.1) : Int)))
    ((Eq (α := Option Value) ((gC enS g.1)[(0 : Nat) + Int.toNat (↑i : Int) * (1 : Nat)]?) (some (Value.string (cellS (gC enS g.1) ((0 : Nat) + Int.toNat (↑i : Int) * (1 : Nat)))))) ∧
    (br (strEq (cellS (gC enS g.1) ((0 : Nat) + Int.toNat (↑i : Int) * (1 : Nat))) (ByteArray.mk #[]))
     ((Eq (α := Option Value) ((gC enS g.1)[(0 : Nat) + Int.toNat (↑i : Int) * (1 : Nat)]?) (some (Value.string (cellS (gC enS g.1) ((0 : Nat) + Int.toNat (↑i : Int) * (1 : Nat)))))) ∧
     ((Value.string (cellS (gC enS g.1) ((0 : Nat) + Int.toNat (↑i : Int) * (1 : Nat))) = Value.string (cellS (gC enS g.1) ((0 : Nat) + Int.toNat (↑i : Int) * (1 : Nat)))) ∧
     False))
     (br (decide ((0 : Int) ≤ (↑i : Int) ∧ (↑i : Int) < (↑(List.length g.1) : Int)))
      ((Eq (α := Option Value) ((gC enS g.1)[(0 : Nat) + Int.toNat (↑i : Int) * (1 : Nat)]?) (some (Value.string (cellS (gC enS g.1) ((0 : Nat) + Int.toNat (↑i : Int) * (1 : Nat)))))) ∧
      ((((True ∧ True) ∧ (True ∧ List.length (L (cellS (gC enS g.1) ((0 : Nat) + Int.toNat (↑i : Int) * (1 : Nat)))) ≤ (9223372036854775807 : Nat)))) ∧
      (br (decide ((0 : Int) ≤ (↑i : Int) ∧ (↑i : Int) < (↑(List.length g.1) : Int)))
       ((Eq (α := Option Value) ((gC enS g.1)[(0 : Nat) + Int.toNat (↑i : Int) * (1 : Nat)]?) (some (Value.string (cellS (gC enS g.1) ((0 : Nat) + Int.toNat (↑i : Int) * (1 : Nat)))))) ∧
       ((Eq (α := Option Value) ((gC enS g.1)[(0 : Nat) + Int.toNat (↑i : Int) * (1 : Nat)]?) (some (Value.string (cellS (gC enS g.1) ((0 : Nat) + Int.toNat (↑i : Int) * (1 : Nat)))))) ∧
       ((Value.string (cellS (gC enS g.1) ((0 : Nat) + Int.toNat (↑i : Int) * (1 : Nat))) = Value.string (cellS (gC enS g.1) ((0 : Nat) + Int.toNat (↑i : Int) * (1 : Nat)))) ∧
       ((Eq (α := Option Value) ((gC enS g.1)[(0 : Nat) + Int.toNat (↑i : Int) * (1 : Nat)]?) (some (Value.string (cellS (gC enS g.1) ((0 : Nat) + Int.toNat (↑i : Int) * (1 : Nat)))))) ∧
       ((Value.string (cellS (gC enS g.1) ((0 : Nat) + Int.toNat (↑i : Int) * (1 : Nat))) = Value.string (cellS (gC enS g.1) ((0 : Nat) + Int.toNat (↑i : Int) * (1 : Nat)))) ∧
       ((Eq (α := Option Value) ((gC enS g.1)[(0 : Nat) + Int.toNat (↑i : Int) * (1 : Nat)]?) (some (Value.string (cellS (gC enS g.1) ((0 : Nat) + Int.toNat (↑i : Int) * (1 : Nat)))))) ∧
       ((Value.string (cellS (gC enS g.1) ((0 : Nat) + Int.toNat (↑i : Int) * (1 : Nat))) = Value.string (cellS (gC enS g.1) ((0 : Nat) + Int.toNat (↑i : Int) * (1 : Nat)))) ∧
       ((Eq (α := Option Value) ((gC enS g.1)[(0 : Nat) + Int.toNat (↑i : Int) * (1 : Nat)]?) (some (Value.string (cellS (gC enS g.1) ((0 : Nat) + Int.toNat (↑i : Int) * (1 : Nat)))))) ∧
       ((Value.string (cellS (gC enS g.1) ((0 : Nat) + Int.toNat (↑i : Int) * (1 : Nat))) = Value.string (cellS (gC enS g.1) ((0 : Nat) + Int.toNat (↑i : Int) * (1 : Nat)))) ∧
       (br (!strEq (trimS (cellS (gC enS g.1) ((0 : Nat) + Int.toNat (↑i : Int) * (1 : Nat)))) (cellS (gC enS g.1) ((0 : Nat) + Int.toNat (↑i : Int) * (1 : Nat))))
        False
        (∃ j : Nat, ((Inv j) ∧
        ((m j < m i) ∧
        (((0 : Nat) = (0 : Nat)) ∧
        ((List.length g.1 = List.length g.1) ∧
        ((g.2 = g.2) ∧
        (((↑j : Int) = IntKind.wrap IntKind.i64 ((↑i : Int) + (1 : Int))) ∧
        ((Eq (α := List Value) (gC enS g.1) (gC enS g.1)) ∧
        ((Plain (gC enS g.1)) ∧
        True)))))))))))))))))))
       False)))
      False)))
    False)
   (∃ y : Unit, ((True) ∧
   (((0 : Nat) = (0 : Nat)) ∧
   ((List.length g.1 = List.length g.1) ∧
   ((g.2 = g.2) ∧
   ((Eq (α := List Value) (gC enS g.1) (gC enS g.1)) ∧
   ((Plain (gC enS g.1)) ∧
   True)))))))) := by kernel_rfl
theorem Tr_vc (l : List UInt8) : mcall ETr mTr 60 7 [.string (bs l)] ⟨mkR (nums 0 []), 0⟩ (retIs 0 (.bool true) []) =
  ((((True ∧ True) ∧ (True ∧ List.length (L (bs l)) ≤ (9223372036854775807 : Nat)))) ∧
  ((((True ∧ True) ∧ (True ∧ List.length (L (shortS (bs l))) ≤ (9223372036854775807 : Nat)))) ∧
  ((((True ∧ True) ∧ (True ∧ List.length (L (shortS (bs l))) ≤ (9223372036854775807 : Nat)))) ∧
  ((((True ∧ True) ∧ (True ∧ List.length (L (lowS (shortS (bs l)))) ≤ (9223372036854775807 : Nat)))) ∧
  (br (!strEq (lowS (lowS (shortS (bs l)))) (lowS (shortS (bs l))))
   ((true = false) ∧
   True)
   ((((True ∧ True) ∧ (True ∧ List.length (L (trimS (shortS (bs l)))) ≤ (9223372036854775807 : Nat)))) ∧
   (br (!strEq (trimS (trimS (shortS (bs l)))) (trimS (shortS (bs l))))
    ((true = false) ∧
    True)
    (br (Int.ofNat (List.length (Array.toList (ByteArray.data (lowS (shortS (bs l)))))) != Int.ofNat (List.length (Array.toList (ByteArray.data (shortS (bs l))))))
     ((true = false) ∧
     True)
     (br (decide (Int.ofNat (List.length (Array.toList (ByteArray.data (trimS (shortS (bs l)))))) > Int.ofNat (List.length (Array.toList (ByteArray.data (shortS (bs l)))))))
      ((true = false) ∧
      True)
      ((((True ∧ True) ∧ (True ∧ List.length (L (shortS (bs l))) ≤ (9223372036854775807 : Nat)))) ∧
      ((((True ∧ True) ∧ (True ∧ List.length (L (lowS (shortS (bs l)))) ≤ (9223372036854775807 : Nat)))) ∧
      (br (!tokS (shortS (bs l)) == tokS (lowS (shortS (bs l))))
       ((true = false) ∧
       True)
       ((((True ∧ True) ∧ ((Plain (elC (shortS (bs l))) ∧ True) ∧ List.length (L (shortS (bs l))) ≤ (16777000 : Nat)))) ∧
       (∃ g : GTr, ((List.length g.1 ≤ (16777216 : Nat) ∧ ∀ (x : List UInt8), x ∈ GTr.e g → x ≠ [] ∧ trimL x = x ∧ List.length x ≤ (16777216 : Nat)) ∧
       (((0 : Nat) = (0 : Nat)) ∧
       ((List.length g.1 = elN (shortS (bs l))) ∧
       ((g.2 = okS (shortS (bs l))) ∧
       (((0 : Int) = (0 : Int)) ∧
       ((Eq (α := List Value) (gC enS g.1) (elC (shortS (bs l)))) ∧
       ((Plain (gC enS g.1)) ∧
       (∀ (y : Unit), ((True) →
       (br (g.2)
        (((True ∧ (True ∧ True))) ∧
        ((true = true) ∧
        True))
        (br (Int.ofNat (List.length g.1) == (0 : Int))
         (((True ∧ (True ∧ True))) ∧
         ((true = true) ∧
         True))
         ((true = false) ∧
         True)))))))))))))))))))))))))) := by kernel_rfl
theorem cTr_ok : ∀ f a rows p v news, cTr f a rows = some (p, v, news) → p → Con Try.prog f a rows v (rows ++ news) := by
  intro f a rows p v news h hp
  unfold cTr at h
  split at h <;> simp only [Option.some.injEq, Prod.mk.injEq, reduceCtorEq] at h <;> obtain ⟨rfl, rfl, rfl⟩ := h
  · exact Trm_con (L _) hp
  · exact Low_con (L _) hp
  · exact Tok_con (L _) hp
  · exact Sh_con (L _) hp
  · exact Sp_con (L _) hp
  · exact con_run mixed (n := 1000000) (by kernel_rfl) (by kernel_rfl)
theorem Tr_piece : PieceOk ETr 0 (7, pTr, specTr) := by
  refine piece_loop mixed (calls_envC cTr_ok) (lok_envC _ _ _) lm_none (n := 60) (by kernel_rfl) (fun _ : GTr => (0 : Nat)) (fun g i => i ≤ g.e.length) (fun g i => g.e.length - i) (sl := slTr) (rl := fun g _ => rlTr g) (fun g hg => Nat.zero_le _) (fun g i hg hi => ?_)
  refine (Tr_round g i _ _).mpr ?_
  obtain ⟨h1, h2⟩ := hg
  have hm : maxLen = 9223372036854775807 := by unfold maxLen; rfl
  simp only [ofNat_eq, toNat_cast, Nat.zero_add, Nat.add_zero, Nat.mul_one, List.drop_zero, bCells_len, bCells_drop, bCells_take, bCells_app, bCells_one, bCells_plain, List.length_replicate, List.length_append, List.length_take, List.length_drop, List.take_length, and_true, true_and, and_self, decide_true, List.length_nil, List.length_cons, Nat.sub_zero, dB_mk, dB_ro, List.take_zero, sPl]
  refine br_if (fun h => br_dec (by omega) ?_) (fun h => ⟨(), trivial⟩)
  have hi : i < g.e.length := by omega
  obtain ⟨c1, c2⟩ := sGet g.e i hi
  obtain ⟨k1, k2, k3⟩ := h2 g.e[i] (List.getElem_mem hi)
  simp only [c1, c2, bs_nil, strEq_bs, trimS_bs, k2, bs_len]
  have w := i64_succ (show i < 9223372036854775807 by omega)
  exact ⟨trivial, br_nd k1 (br_dec (by omega) ⟨trivial, by omega, br_dec (by omega) ⟨trivial, trivial, trivial, trivial, trivial, br_nb (by simp) ⟨i + 1, by omega, by omega, w.symm⟩⟩⟩)⟩
theorem trims_law (s : ByteArray) (hs : s.size ≤ maxLen) : Con Try.prog 7 [.string s] [] (.bool true) [] := by
  obtain ⟨l, rfl⟩ : ∃ l, s = bs l := ⟨L s, rfl⟩
  have hl : l.length ≤ maxLen := hs
  refine con_vc (E := ETr) mixed (calls_envC cTr_ok) (lok_envC _ _ _) (M := mTr) (lm_one Tr_piece) (Tr_vc l) ?_
  simp only [ofNat_eq, toNat_cast, Nat.zero_add, Nat.add_zero, Nat.mul_one, List.drop_zero, bCells_len, bCells_drop, bCells_take, bCells_app, bCells_one, bCells_plain, List.length_replicate, List.length_append, List.length_take, List.length_drop, List.take_length, and_true, true_and, and_self, decide_true, List.length_nil, List.length_cons, Nat.sub_zero, dB_mk, dB_ro, List.take_zero, bs_d, shortS_bs, lowS_bs, trimS_bs, tokS_bs, strEq_bs, bs_len, lower_lower, trim_trim, tok_lower, lower_len]
  have hm : maxLen = 9223372036854775807 := by unfold maxLen; rfl
  have ht := trimL_len (l.take 300)
  have h3 : (l.take 300).length ≤ 300 := by simp; omega
  have hle : (l.take 300).length = min 300 l.length := by simp
  have hel := split_len (l.take 300)
  have hee := split_el (l.take 300)
  refine ⟨by omega, by omega, by omega, by omega, br_nb rfl ⟨by omega, br_nb rfl (br_nb (by simp) (br_nb (by simp; omega) ⟨by omega, by omega, br_nb (by simp) ⟨⟨sPl _, by omega⟩, ⟨elSp (l.take 300), okSp (l.take 300)⟩, ⟨?_, fun x hx => ?_⟩, rfl, rfl, rfl, sPl _, fun _ _ => br_intro (fun _ => trivial) (fun h => br_b ?_ trivial)⟩⟩))⟩⟩
  · have := hel.2; simp only; unfold elSp; omega
  · have h1 := hee x hx
    have h2 := hel.1 x hx
    exact ⟨h1.1, h1.2, by omega⟩
  · simp only at h ⊢
    unfold okSp at h
    unfold elSp
    cases hs : splitL (l.take 300) with
    | none => rfl
    | some r => rw [hs] at h; simp at h
end Go.Proofs.Ytllpeacofilbcaa.tk
