/- The law: a text that may stand in a quoted one is told again; so is one that is split off between others. -/
import Derived.Test.YtllpeacofilbcaaSz9
import Derived.Test.YtllpeacofilbcaaRows
import Derived.Test.YtllpeacofilbcaaLtkUnq
import Derived.Test.YtllpeacofilbcaaLtkSplit
import Derived.Test.YtllpeacofilbcaaLtkShort
import Derived.Test.YtllpeacofilbcaaLtkfacts
import Derived.Test.YtllpeacofilbcaaLquot
import Derived.Test.YtllpeacofilbcaaLsbook
set_option linter.unusedSimpArgs false
set_option linter.unusedVariables false
namespace Go.Proofs.Ytllpeacofilbcaa.tk
open Go Go.Ev Go.Sy Go.RowKit Go.Proofs.Ytllpeacofilbcaa.gl Go.Proofs.Ytllpeacofilbcaa.sb
def cBk : FuncId → List Value → List Row → Option (Prop × Value × List Row)
  | 10, [.string s], [] => some ((L s).length ≤ 16777000, .tuple #[.string (unqV s), .bool (unqB s)], [])
  | 20, [.string s], [] => some ((L s).length ≤ maxLen, .string (shortS s), [])
  | 19, [.string s], [] => some ((L s).length ≤ 1000, .tuple #[.string (quoS s), .bool (quoB s)], [])
  | 9, [.string s], [] => some ((L s).length ≤ 16777000, .tuple #[.slice (some ⟨0, 0, none⟩) (elN s) 1, .bool (okS s)], [⟨elC s, false, .cells true⟩])
  | 12, [.slice (some ⟨0, 0, none⟩) n 1, .slice (some ⟨1, 0, none⟩) m 1], [r0, r1] => some (IsS r0 n ∧ IsS r1 m ∧ n ≤ maxLen, .bool (sameR r0 r1), [])
  | 3, [], [] => some (True, .bool true, [])
  | _, _, _ => none
def kBk (f : FuncId) : Bool := Nat.beq f 10 || Nat.beq f 9 || Nat.beq f 20 || Nat.beq f 19 || Nat.beq f 12 || Nat.beq f 3
noncomputable abbrev EBk : Env := envC Try.prog cBk kBk
def joinQ (w : List (List UInt8)) : List UInt8 := w.flatMap fun q => 32 :: (q ++ [9, 44])
def QS (w : List (List UInt8)) : Prop := ∀ q ∈ w, ∃ x, okQ x = true ∧ x.length ≤ 300 ∧ q = quoL x
structure StBk where
  line : List UInt8
  want : List (List UInt8)
  i : Nat
def pBk : List Nat := [0, 1, 0, 1, 1, 1]
def slBk (g : List (List UInt8)) (s : StBk) : List (Nat × Value) := [(0, .slice (some ⟨0, 0, none⟩) g.length 1), (3, .string (bs s.line)), (4, .slice (some ⟨1, 0, none⟩) s.want.length 1), (5, .int .i64 (s.i : Nat))]
def rlBk (g : List (List UInt8)) (s : StBk) : List (Nat × Row) := [(0, gRo enS g), (1, gOwn enS s.want)]
def wsBk (g : List (List UInt8)) : List (Gate StBk) := [⟨.exit 0, fun s => s.line = joinQ s.want ∧ s.line.length ≤ 6060 ∧ s.want.length ≤ 10 ∧ QS s.want, fun s => [(3, .string (bs s.line)), (4, .slice (some ⟨1, 0, none⟩) s.want.length 1)], fun s => [(0, gRo enS g), (1, gOwn enS s.want)], 2⟩]
def specBk : Sy.Spec := specOf 1 2 72 (fun g : List (List UInt8) => g.length ≤ maxLen ∧ ∀ x ∈ g, x.length ≤ maxLen) (fun g => slBk g ⟨[], [], 0⟩) (fun g => rlBk g ⟨[], [], 0⟩) wsBk
def mBk := mOf [(5, pBk, specBk)]
theorem Bk_round (g : List (List UInt8)) (s : StBk) (Inv : StBk → Prop) (m : StBk → Nat) : mev EBk noM 60 5 (0 :: pBk) false (codeOf Try.prog 5 (0 :: pBk)) ⟨mkOv (slBk g s), 72, []⟩ none ⟨mkR (rlBk g s), 2⟩ (roundK 1 2 72 Inv m (slBk g) (rlBk g) (wsBk g) s) =
  (br (decide ((↑s.3 : Int) < Int.ofNat (List.length g)))
   (br (decide ((↑s.3 : Int) < (10 : Int)))
    (br (decide ((0 : Int) ≤ (↑s.3 : Int) ∧ (↑s.3 : Int) < (↑(List.length g) : Int)))
     ((Eq (α := Option Value) ((gC enS g)[(0 : Nat) + Int.toNat (↑s.3 : Int) * (1 : Nat)]?) (some (Value.string (cellS (gC enS g) ((0 : Nat) + Int.toNat (↑s.3 : Int) * (1 : Nat)))))) ∧
     ((((True ∧ True) ∧ (True ∧ List.length (L (cellS (gC enS g) ((0 : Nat) + Int.toNat (↑s.3 : Int) * (1 : Nat)))) ≤ (9223372036854775807 : Nat)))) ∧
     ((((True ∧ True) ∧ (True ∧ List.length (L (shortS (cellS (gC enS g) ((0 : Nat) + Int.toNat (↑s.3 : Int) * (1 : Nat))))) ≤ (1000 : Nat)))) ∧
     (br (!quoB (shortS (cellS (gC enS g) ((0 : Nat) + Int.toNat (↑s.3 : Int) * (1 : Nat)))))
      (∃ j : StBk, ((Inv j) ∧
      ((m j < m s) ∧
      (((0 : Nat) = (0 : Nat)) ∧
      ((List.length g = List.length g) ∧
      ((bs j.1 = bs s.1) ∧
      (((0 : Nat) = (0 : Nat)) ∧
      ((List.length j.2 = List.length s.2) ∧
      (((↑j.3 : Int) = IntKind.wrap IntKind.i64 ((↑s.3 : Int) + (1 : Int))) ∧
      ((Eq (α := List Value) (gC enS g) (gC enS g)) ∧
      ((Plain (gC enS g)) ∧
      ((Eq (α := List Value) (gC enS j.2) (gC enS s.2)) ∧
      ((Plain (gC enS j.2)) ∧
      True)))))))))))))
      ((((True ∧ True) ∧ (True ∧ List.length (L (quoS (shortS (cellS (gC enS g) ((0 : Nat) + Int.toNat (↑s.3 : Int) * (1 : Nat)))))) ≤ (16777000 : Nat)))) ∧
      (br (!unqB (quoS (shortS (cellS (gC enS g) ((0 : Nat) + Int.toNat (↑s.3 : Int) * (1 : Nat))))))
       False
       (br (decide ((0 : Int) ≤ (↑s.3 : Int) ∧ (↑s.3 : Int) < (↑(List.length g) : Int)))
        ((Eq (α := Option Value) ((gC enS g)[(0 : Nat) + Int.toNat (↑s.3 : Int) * (1 : Nat)]?) (some (Value.string (cellS (gC enS g) ((0 : Nat) + Int.toNat (↑s.3 : Int) * (1 : Nat)))))) ∧
        ((((True ∧ True) ∧ (True ∧ List.length (L (cellS (gC enS g) ((0 : Nat) + Int.toNat (↑s.3 : Int) * (1 : Nat)))) ≤ (9223372036854775807 : Nat)))) ∧
        (br (!strEq (unqV (quoS (shortS (cellS (gC enS g) ((0 : Nat) + Int.toNat (↑s.3 : Int) * (1 : Nat)))))) (shortS (cellS (gC enS g) ((0 : Nat) + Int.toNat (↑s.3 : Int) * (1 : Nat)))))
         False
         (br (decide (List.length (Array.toList (ByteArray.data (bs s.1))) + (1 : Nat) ≤ (9223372036854775807 : Nat)))
          (br (decide (List.length (Array.toList (ByteArray.data (bs s.1)) ++ [(32 : UInt8)]) + List.length (Array.toList (ByteArray.data (quoS (shortS (cellS (gC enS g) ((0 : Nat) + Int.toNat (↑s.3 : Int) * (1 : Nat))))))) ≤ (9223372036854775807 : Nat)))
           (br (decide (List.length (Array.toList (ByteArray.data (bs s.1)) ++ [(32 : UInt8)] ++ Array.toList (ByteArray.data (quoS (shortS (cellS (gC enS g) ((0 : Nat) + Int.toNat (↑s.3 : Int) * (1 : Nat))))))) + (2 : Nat) ≤ (9223372036854775807 : Nat)))
            (br (decide (List.length s.2 + (1 : Nat) ≤ (16777216 : Nat)))
             (br (decide ((0 : Nat) + List.length s.2 * (1 : Nat) ≤ List.length (gC enS s.2)))
              (∃ j : StBk, ((Inv j) ∧
              ((m j < m s) ∧
              (((0 : Nat) = (0 : Nat)) ∧
              ((List.length g = List.length g) ∧
              ((bs j.1 = bs s.1 ++ ByteArray.mk #[(32 : UInt8)] ++ quoS (shortS (cellS (gC enS g) ((0 : Nat) + Int.toNat (↑s.3 : Int) * (1 : Nat)))) ++ ByteArray.mk #[(9 : UInt8), (44 : UInt8)]) ∧
              (((0 : Nat) = (0 : Nat)) ∧
              ((List.length j.2 = List.length s.2 + (1 : Nat)) ∧
              (((↑j.3 : Int) = IntKind.wrap IntKind.i64 ((↑s.3 : Int) + (1 : Int))) ∧
              ((Eq (α := List Value) (gC enS g) (gC enS g)) ∧
              ((Plain (gC enS g)) ∧
              ((Eq (α := List Value) (gC enS j.2) (List.take (List.length s.2 * (1 : Nat)) (List.drop (0 : Nat) (gC enS s.2)) ++ [Value.string (quoS (shortS (cellS (gC enS g) ((0 : Nat) + Int.toNat (↑s.3 : Int) * (1 : Nat)))))])) ∧
              ((Plain (gC enS j.2)) ∧
              True)))))))))))))
              False)
             False)
            False)
           False)
          False))))
        False)))))))
     False)
    (∃ y : StBk, (((Eq (α := List UInt8) (y.1) (joinQ y.2) ∧ (List.length y.1 ≤ (6060 : Nat) ∧ (List.length y.2 ≤ (10 : Nat) ∧ QS y.2)))) ∧
    ((bs y.1 = bs s.1) ∧
    (((0 : Nat) = (0 : Nat)) ∧
    ((List.length y.2 = List.length s.2) ∧
    ((Eq (α := List Value) (gC enS g) (gC enS g)) ∧
    ((Plain (gC enS g)) ∧
    ((Eq (α := List Value) (gC enS y.2) (gC enS s.2)) ∧
    ((Plain (gC enS y.2)) ∧
    True))))))))))
   (∃ y : StBk, (((Eq (α := List UInt8) (y.1) (joinQ y.2) ∧ (List.length y.1 ≤ (6060 : Nat) ∧ (List.length y.2 ≤ (10 : Nat) ∧ QS y.2)))) ∧
   ((bs y.1 = bs s.1) ∧
   (((0 : Nat) = (0 : Nat)) ∧
   ((List.length y.2 = List.length s.2) ∧
   ((Eq (α := List Value) (gC enS g) (gC enS g)) ∧
   ((Plain (gC enS g)) ∧
   ((Eq (α := List Value) (gC enS y.2) (gC enS s.2)) ∧
   ((Plain (gC enS y.2)) ∧
   True)))))))))) := by kernel_rfl
theorem Bk_vc (l : List (List UInt8)) : mcall EBk mBk 60 5 [.slice (some ⟨0, 0, none⟩) l.length 1] ⟨mkR (nums 0 [gRo enS l]), 1⟩ (retIs 1 (.bool true) [gRo enS l]) =
  (∃ g : List (List UInt8), ((List.length g ≤ (9223372036854775807 : Nat) ∧ ∀ (x : List UInt8), x ∈ g → List.length x ≤ maxLen) ∧
  (((0 : Nat) = (0 : Nat)) ∧
  ((List.length g = List.length l) ∧
  ((bs (StBk.line (StBk.mk [] [] (0 : Nat))) = ByteArray.mk #[]) ∧
  (((0 : Nat) = (0 : Nat)) ∧
  (((0 : Int) = (0 : Int)) ∧
  ((Eq (α := List Value) (gC enS g) (gC enS l)) ∧
  ((Plain (gC enS g)) ∧
  ((Eq (α := List Value) ([]) ([])) ∧
  (∀ (y : StBk), ((y.1 = joinQ y.2 ∧ List.length y.1 ≤ (6060 : Nat) ∧ List.length y.2 ≤ (10 : Nat) ∧ QS y.2) →
  ((((True ∧ True) ∧ ((Plain (elC (bs y.1)) ∧ True) ∧ List.length (L (bs y.1)) ≤ (16777000 : Nat)))) ∧
  (br (okS (bs y.1))
   ((((((0 : Nat) + elN (bs y.1) * (1 : Nat) ≤ List.length (elC (bs y.1)) ∧ Plain (List.take (elN (bs y.1) * (1 : Nat)) (List.drop (0 : Nat) (elC (bs y.1))))) ∧ (((0 : Nat) + List.length y.2 * (1 : Nat) ≤ List.length (gC enS y.2) ∧ Plain (List.take (List.length y.2 * (1 : Nat)) (List.drop (0 : Nat) (gC enS y.2)))) ∧ True)) ∧ (True ∧ (IsS (Row.mk (List.take (elN (bs y.1) * (1 : Nat)) (List.drop (0 : Nat) (elC (bs y.1)))) true (Ob.cells true)) (elN (bs y.1)) ∧ (IsS (Row.mk (List.take (List.length y.2 * (1 : Nat)) (List.drop (0 : Nat) (gC enS y.2))) true (Ob.cells true)) (List.length y.2) ∧ elN (bs y.1) ≤ (9223372036854775807 : Nat)))))) ∧
   (br (sameR (Row.mk (List.take (elN (bs y.1) * (1 : Nat)) (List.drop (0 : Nat) (elC (bs y.1)))) true (Ob.cells true)) (Row.mk (List.take (List.length y.2 * (1 : Nat)) (List.drop (0 : Nat) (gC enS y.2))) true (Ob.cells true)))
    (((True ∧ (True ∧ True))) ∧
    ((true = true) ∧
    ((Eq (α := List Value) (gC enS l) (gC enS g)) ∧
    ((Plain (gC enS l)) ∧
    True))))
    ((true = false) ∧
    ((Eq (α := List Value) (gC enS l) (gC enS g)) ∧
    ((Plain (gC enS l)) ∧
    True)))))
   ((true = false) ∧
   ((Eq (α := List Value) (gC enS l) (gC enS g)) ∧
   ((Plain (gC enS l)) ∧
   True))))))))))))))))) := by kernel_rfl
theorem cBk_ok : ∀ f a rows p v news, cBk f a rows = some (p, v, news) → p → Con Try.prog f a rows v (rows ++ news) := by
  intro f a rows p v news h hp
  have e : ∀ l, decS (gRo enS l).cells = l := fun l => decS_gC l
  unfold cBk at h
  split at h <;> simp only [Option.some.injEq, Prod.mk.injEq, reduceCtorEq] at h <;> obtain ⟨rfl, rfl, rfl⟩ := h
  · exact Un_con (L _) hp
  · exact Sh_con (L _) hp
  · exact Qt_con (L _) hp
  · exact Sp_con (L _) hp
  · obtain ⟨⟨l, rfl, rfl⟩, ⟨k, rfl, rfl⟩, h2⟩ := hp
    simp only [sameR, e, List.append_nil]
    exact same_con l k h2
  · exact con_run mixed (n := 1000000) (by kernel_rfl) (by kernel_rfl)
theorem trim_quo (x : List UInt8) : trimL (32 :: (quoL x ++ [9])) = quoL x := by
  have s1 : spC 34 = false := by decide
  have s2 : spC 32 = true := by decide
  have s3 : spC 9 = true := by decide
  unfold trimL trimF
  rw [List.dropWhile_cons_of_pos s2]
  unfold quoL
  rw [List.cons_append, List.dropWhile_cons_of_neg (by simp [s1])]
  unfold trimB
  simp [s1, s3]
theorem spl_joinQ : ∀ w : List (List UInt8), QS w → spl false [] (joinQ w) = some w
  | [], _ => by rw [show joinQ [] = [] from rfl, spl_nil]; rfl
  | q :: w, h => by
    obtain ⟨x, h1, h2, rfl⟩ := h q (by simp)
    have ih := spl_joinQ w fun y hy => h y (by simp [hy])
    rw [show joinQ (quoL x :: w) = 32 :: (quoL x ++ (9 :: 44 :: joinQ w)) by unfold joinQ; rw [List.flatMap_cons]; simp]
    rw [spl_o _ _ _ _ (by decide) (by simp) (by simp), spl_quo, spl_o _ _ _ _ (by decide) (by simp) (by simp), spl_c _ _ _ _ (by decide) (by simp) (by simp), ih]
    have ha : addEl ([] ++ [32] ++ quoL x ++ [9]) = [quoL x] := by
      rw [show [] ++ [32] ++ quoL x ++ [9] = 32 :: (quoL x ++ [9]) by simp]
      unfold addEl; rw [trim_quo, if_neg (by unfold quoL; simp)]
    rw [ha]; rfl
theorem Bk_piece : PieceOk EBk 1 (5, pBk, specBk) := by
  refine piece_loop mixed (calls_envC cBk_ok) (lok_envC _ _ _) lm_none (n := 60) (by kernel_rfl) (fun _ => (⟨[], [], 0⟩ : StBk)) (fun g s => s.i ≤ g.length ∧ s.i ≤ 10 ∧ s.want.length ≤ s.i ∧ s.line.length ≤ s.i * 606 ∧ s.line = joinQ s.want ∧ QS s.want) (fun g s => g.length - s.i) (sl := slBk) (rl := rlBk) (fun g hg => ⟨Nat.zero_le _, Nat.zero_le _, Nat.le_refl _, Nat.le_refl _, rfl, fun q hq => by simp at hq⟩) (fun g s hg hi => ?_)
  refine (Bk_round g s _ _).mpr ?_
  obtain ⟨line, want, i⟩ := s
  obtain ⟨h1, h2, h3, h4, h5, h6⟩ := hi
  obtain ⟨g1, g2⟩ := hg
  have hm : maxLen = 9223372036854775807 := by unfold maxLen; rfl
  simp only at h1 h2 h3 h4 h5 h6
  simp only [ofNat_eq, toNat_cast, Nat.zero_add, Nat.add_zero, Nat.mul_one, List.drop_zero, bCells_len, bCells_drop, bCells_take, bCells_app, bCells_one, bCells_plain, List.length_replicate, List.length_append, List.length_take, List.length_drop, List.take_length, and_true, true_and, and_self, decide_true, List.length_nil, List.length_cons, Nat.sub_zero, dB_mk, dB_ro, List.take_zero, sPl, sLen, bs_nil]
  have hend : ∃ y : StBk, (y.line = joinQ y.want ∧ y.line.length ≤ 6060 ∧ y.want.length ≤ 10 ∧ QS y.want) ∧ bs y.line = bs line ∧ y.want.length = want.length ∧ gC enS y.want = gC enS want :=
    ⟨⟨line, want, i⟩, ⟨h5, by simp only; omega, by simp only; omega, h6⟩, rfl, rfl, rfl⟩
  refine br_if (fun h => br_if (fun h' => br_dec (by omega) ?_) (fun _ => hend)) (fun _ => hend)
  have hi : i < g.length := by omega
  obtain ⟨c1, c2⟩ := sGet g i hi
  have hx : g[i].length ≤ maxLen := g2 _ (List.getElem_mem hi)
  have w := i64_succ (show i < 9223372036854775807 by omega)
  simp only [c1, c2, shortS_bs, bs_len, w]
  obtain ⟨x, hxx⟩ : ∃ x, x = g[i].take 300 := ⟨_, rfl⟩
  have hx3 : x.length ≤ 300 := by rw [hxx, List.length_take]; omega
  rw [← hxx]
  refine ⟨trivial, by omega, by omega, br_intro (fun hq => ?_) (fun hq => ?_)⟩
  · exact ⟨⟨line, want, i + 1⟩, ⟨by simp only; omega, by simp only; omega, by simp only; omega, Nat.le_trans h4 (Nat.mul_le_mul_right _ (Nat.le_succ _)), h5, h6⟩, by simp only; omega, rfl, rfl, rfl, rfl⟩
  · have hq : okQ x = true := by rw [quoB_bs] at hq; simpa using hq
    have hlen := quoL_len x
    have hu := unqL_quo x hq
    have u1 : unqB (bs (quoL x)) = true := by unfold unqB; rw [L_bs, hu]; rfl
    have u2 : unqV (bs (quoL x)) = bs x := by unfold unqV; rw [L_bs, hu]; rfl
    have d1 : (bs line).data.toList.length = line.length := bs_len _
    have d2 : (bs (quoL x)).data.toList.length = (quoL x).length := bs_len _
    simp only [quoS_bs x hq, bs_len, u1, u2, d1, d2, strEq_bs]
    refine ⟨by omega, br_nb rfl (br_dec (by omega) ⟨trivial, by omega, br_nb (by simp) (br_dec (by omega) (br_dec (by omega) (br_dec (by omega) (br_dec (by omega) (br_dec (by omega) ?_)))))⟩)⟩
    refine ⟨⟨line ++ [32] ++ quoL x ++ [9, 44], want ++ [quoL x], i + 1⟩, ⟨by simp only; omega, by simp only; omega, by simp only [List.length_append, List.length_singleton]; omega, by simp only [List.length_append, List.length_cons, List.length_nil]; omega, ?_, ?_⟩, by simp only; omega, ?_, by simp, rfl, ?_⟩
    · simp only; rw [h5]; unfold joinQ; rw [List.flatMap_append]; simp
    · intro q hq'
      rcases List.mem_append.1 hq' with hq' | hq'
      · exact h6 q hq'
      · rw [List.mem_singleton] at hq'; exact ⟨x, hq, hx3, hq'⟩
    · simp only; rw [show (⟨#[32]⟩ : ByteArray) = bs [32] from rfl, show (⟨#[9, 44]⟩ : ByteArray) = bs [9, 44] from rfl, bs_app, bs_app, bs_app]
    · simp only; rw [sTake, sOne1, gC_app]
theorem bk_law (l : List (List UInt8)) (hl : l.length ≤ maxLen) (hx : ∀ x ∈ l, x.length ≤ maxLen) : Con Try.prog 5 [.slice (some ⟨0, 0, none⟩) l.length 1] [gRo enS l] (.bool true) [gRo enS l] := by
  refine con_vc (E := EBk) mixed (calls_envC cBk_ok) (lok_envC _ _ _) (M := mBk) (lm_one Bk_piece) (Bk_vc l) ?_
  simp only [ofNat_eq, toNat_cast, Nat.zero_add, Nat.add_zero, Nat.mul_one, List.drop_zero, bCells_len, bCells_drop, bCells_take, bCells_app, bCells_one, bCells_plain, List.length_replicate, List.length_append, List.length_take, List.length_drop, List.take_length, and_true, true_and, and_self, decide_true, List.length_nil, List.length_cons, Nat.sub_zero, dB_mk, dB_ro, List.take_zero, sPl, sLen, bs_nil]
  have hm : maxLen = 9223372036854775807 := by unfold maxLen; rfl
  refine ⟨l, ⟨by omega, hx⟩, rfl, rfl, fun y hy => ?_⟩
  obtain ⟨k1, k2, k3, k4⟩ := hy
  have hs : splitL y.line = some y.want := by rw [k1]; exact spl_joinQ _ k4
  have e1 : elSp y.line = y.want := by unfold elSp; rw [hs]; rfl
  have e2 : okSp y.line = true := by unfold okSp; rw [hs]; rfl
  simp only [elC_bs, elN_bs, okS_bs, e1, e2, bs_len, sTake, sLen]
  have hsm : ∀ a b o p, sameR ⟨gC enS y.want, a, o⟩ ⟨gC enS y.want, b, p⟩ = true := fun a b o p => by rw [sameR_gC]; simp
  refine ⟨⟨sPl _, by omega⟩, br_b rfl ⟨⟨⟨⟨by omega, sPl _⟩, ⟨by omega, sPl _⟩⟩, isS_mk _ _ rfl, isS_mk _ _ rfl, by omega⟩, br_b (hsm _ _ _ _) trivial⟩⟩
end Go.Proofs.Ytllpeacofilbcaa.tk
