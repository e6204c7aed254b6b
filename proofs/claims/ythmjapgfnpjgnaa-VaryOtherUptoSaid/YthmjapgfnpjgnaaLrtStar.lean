/- The names that vary tells, by the document. -/
import Derived.Test.YthmjapgfnpjgnaaSz9
import Derived.Test.YthmjapgfnpjgnaaRows
import Derived.Test.YthmjapgfnpjgnaaLkp
import Derived.Test.YthmjapgfnpjgnaaLrtAll
import Derived.Test.YthmjapgfnpjgnaaLrtSplit
import Derived.Test.YthmjapgfnpjgnaaLrtToken
import Derived.Test.YthmjapgfnpjgnaaLrtLower
import Derived.Test.YthmjapgfnpjgnaaLbrt
import Derived.Test.YthmjapgfnpjgnaaLtkfacts
set_option linter.unusedSimpArgs false
set_option linter.unusedVariables false
namespace Go.Proofs.Ythmjapgfnpjgnaa.tk
open Go Go.Ev Go.Sy Go.RowKit Go.Proofs.Ythmjapgfnpjgnaa.gl
def cRx : FuncId → List Value → List Row → Option (Prop × Value × List Row)
  | 17, [.slice (some ⟨0, 0, none⟩) n 2, .string s], [r0] => some (IsF r0 n ∧ n ≤ maxLen ∧ alB r0 s ≤ 16777216, .tuple #[.string (alV r0 s), .int .i64 (alN r0 s)], [])
  | 24, [.string s], [] => some ((L s).length ≤ 16777000, .tuple #[.slice (some ⟨0, 0, none⟩) (elN s) 1, .bool (okS s)], [⟨elC s, false, .cells true⟩])
  | 26, [.string s], [] => some ((L s).length ≤ 16777216, .string (lowS s), [])
  | 25, [.string s], [] => some ((L s).length ≤ maxLen, .bool (tokS s), [])
  | _, _, _ => none
noncomputable abbrev ERx : Env := envC Try.prog cRx (fun f => Nat.beq f 17 || Nat.beq f 24 || Nat.beq f 26 || Nat.beq f 25)
def pRx : List Nat := [0, 1, 0, 1, 1, 1, 1, 1]
structure GRx where
  l : List Fl
  ps : List (List UInt8)
  ok : Bool
def slRx (g : GRx) (i : Nat) : List (Nat × Value) := [(6, .slice (some ⟨1, 0, none⟩) g.ps.length 1), (7, .bool g.ok), (8, .slice (some ⟨2, 0, none⟩) ((g.ps.take i).map lowerL).length 1), (9, .int .i64 (i : Nat))]
def rlRx (g : GRx) (i : Nat) : List (Nat × Row) := [(0, gRo enF g.l), (1, gOwn enS g.ps), (2, gOwn enS ((g.ps.take i).map lowerL))]
def wsRx (g : GRx) : List (Gate Unit) := [⟨.exit 0, fun _ => g.ps.all nmOk = true, fun _ => [(7, .bool g.ok), (8, .slice (some ⟨1, 0, none⟩) (g.ps.map lowerL).length 1)], fun _ => [(0, gRo enF g.l), (1, gOwn enS (g.ps.map lowerL))], 2⟩, ⟨.ret, fun _ => g.ps.all nmOk = false, fun _ => [(2, .slice none 0 0), (3, .bool true)], fun _ => [(0, gRo enF g.l)], 1⟩]
def specRx : Sy.Spec := specOf 1 3 52 (fun g : GRx => g.ps.length ≤ 16777100 ∧ ∀ x ∈ g.ps, x.length ≤ 16777000) (fun g => slRx g 0) (fun g => rlRx g 0) wsRx
def mRx := mOf [(16, pRx, specRx)]
theorem Rx_round (g : GRx) (i : Nat) (Inv : Nat → Prop) (m : Nat → Nat) : mev ERx noM 60 16 (0 :: pRx) false (codeOf Try.prog 16 (0 :: pRx)) ⟨mkOv (slRx g i), 52, []⟩ none ⟨mkR (rlRx g i), 3⟩ (roundK 1 3 52 Inv m (slRx g) (rlRx g) (wsRx g) i) =
  (br (decide ((↑i : Int) < Int.ofNat (List.length g.2)))
   (br (decide ((0 : Int) ≤ (↑i : Int) ∧ (↑i : Int) < (↑(List.length g.2) : Int)))
    ((Eq (α := Option Value) ((gC enS g.2)[(0 : Nat) + Int.toNat (↑i : Int) * (1 : Nat)]?) (some (Value.string (cellS (gC enS g.2) ((0 : Nat) + Int.toNat (↑i : Int) * (1 : Nat)))))) ∧
    (br (strEq (cellS (gC enS g.2) ((0 : Nat) + Int.toNat (↑i : Int) * (1 : Nat))) (ByteArray.mk #[(42 : UInt8)]))
     (∃ y : Unit, ((List.all g.2 nmOk = false) ∧
     ((true = true) ∧
     ((Eq (α := List Value) (gC enF g.1) (gC enF g.1)) ∧
     ((Plain (gC enF g.1)) ∧
     True)))))
     (br (decide ((0 : Int) ≤ (↑i : Int) ∧ (↑i : Int) < (↑(List.length g.2) : Int)))
      ((Eq (α := Option Value) ((gC enS g.2)[(0 : Nat) + Int.toNat (↑i : Int) * (1 : Nat)]?) (some (Value.string (cellS (gC enS g.2) ((0 : Nat) + Int.toNat (↑i : Int) * (1 : Nat)))))) ∧
      ((((True ∧ True) ∧ (True ∧ List.length (L (cellS (gC enS g.2) ((0 : Nat) + Int.toNat (↑i : Int) * (1 : Nat)))) ≤ (9223372036854775807 : Nat)))) ∧
      (br (!tokS (cellS (gC enS g.2) ((0 : Nat) + Int.toNat (↑i : Int) * (1 : Nat))))
       (∃ y : Unit, ((List.all g.2 nmOk = false) ∧
       ((true = true) ∧
       ((Eq (α := List Value) (gC enF g.1) (gC enF g.1)) ∧
       ((Plain (gC enF g.1)) ∧
       True)))))
       (br (decide ((0 : Int) ≤ (↑i : Int) ∧ (↑i : Int) < (↑(List.length g.2) : Int)))
        ((Eq (α := Option Value) ((gC enS g.2)[(0 : Nat) + Int.toNat (↑i : Int) * (1 : Nat)]?) (some (Value.string (cellS (gC enS g.2) ((0 : Nat) + Int.toNat (↑i : Int) * (1 : Nat)))))) ∧
        ((((True ∧ True) ∧ (True ∧ List.length (L (cellS (gC enS g.2) ((0 : Nat) + Int.toNat (↑i : Int) * (1 : Nat)))) ≤ (16777216 : Nat)))) ∧
        (br (decide (List.length (List.map lowerL (List.take i g.2)) + (1 : Nat) ≤ (16777216 : Nat)))
         (br (decide ((0 : Nat) + List.length (List.map lowerL (List.take i g.2)) * (1 : Nat) ≤ List.length (gC enS (List.map lowerL (List.take i g.2)))))
          (∃ j : Nat, ((Inv j) ∧
          ((m j < m i) ∧
          (((0 : Nat) = (0 : Nat)) ∧
          ((List.length g.2 = List.length g.2) ∧
          ((g.3 = g.3) ∧
          (((0 : Nat) = (0 : Nat)) ∧
          ((List.length (List.map lowerL (List.take j g.2)) = List.length (List.map lowerL (List.take i g.2)) + (1 : Nat)) ∧
          (((↑j : Int) = IntKind.wrap IntKind.i64 ((↑i : Int) + (1 : Int))) ∧
          ((Eq (α := List Value) (gC enF g.1) (gC enF g.1)) ∧
          ((Plain (gC enF g.1)) ∧
          ((Eq (α := List Value) (gC enS g.2) (gC enS g.2)) ∧
          ((Plain (gC enS g.2)) ∧
          ((Eq (α := List Value) (gC enS (List.map lowerL (List.take j g.2))) (List.take (List.length (List.map lowerL (List.take i g.2)) * (1 : Nat)) (List.drop (0 : Nat) (gC enS (List.map lowerL (List.take i g.2)))) ++ [Value.string (lowS (cellS (gC enS g.2) ((0 : Nat) + Int.toNat (↑i : Int) * (1 : Nat))))])) ∧
          ((Plain (gC enS (List.map lowerL (List.take j g.2)))) ∧
          True)))))))))))))))
          False)
         False)))
        False))))
      False)))
    False)
   (∃ y : Unit, ((List.all g.2 nmOk = true) ∧
   ((g.3 = g.3) ∧
   (((0 : Nat) = (0 : Nat)) ∧
   ((List.length (List.map lowerL g.2) = List.length (List.map lowerL (List.take i g.2))) ∧
   ((Eq (α := List Value) (gC enF g.1) (gC enF g.1)) ∧
   ((Plain (gC enF g.1)) ∧
   ((Eq (α := List Value) (gC enS (List.map lowerL g.2)) (gC enS (List.map lowerL (List.take i g.2)))) ∧
   ((Plain (gC enS (List.map lowerL g.2))) ∧
   True)))))))))) := by kernel_rfl
theorem Rx_vc (l : List Fl) : mcall ERx mRx 60 16 [.slice (some ⟨0, 0, none⟩) l.length 2] ⟨mkR (nums 0 [gRo enF l]), 1⟩ (retIs 1 (.tuple #[.slice (some ⟨1, 0, none⟩) (stL l).length 1, .bool (starL l).isNone]) [gRo enF l, gOwn enS (stL l)]) =
  ((((((0 : Nat) + List.length l * (2 : Nat) ≤ List.length (gC enF l) ∧ Plain (List.take (List.length l * (2 : Nat)) (List.drop (0 : Nat) (gC enF l)))) ∧ (True ∧ True)) ∧ (True ∧ (IsF (Row.mk (List.take (List.length l * (2 : Nat)) (List.drop (0 : Nat) (gC enF l))) true (Ob.cells true)) (List.length l) ∧ (List.length l ≤ (9223372036854775807 : Nat) ∧ alB (Row.mk (List.take (List.length l * (2 : Nat)) (List.drop (0 : Nat) (gC enF l))) true (Ob.cells true)) (ByteArray.mk #[(118 : UInt8), (97 : UInt8), (114 : UInt8), (121 : UInt8)]) ≤ (16777216 : Nat)))))) ∧
  (br (alN (Row.mk (List.take (List.length l * (2 : Nat)) (List.drop (0 : Nat) (gC enF l))) true (Ob.cells true)) (ByteArray.mk #[(118 : UInt8), (97 : UInt8), (114 : UInt8), (121 : UInt8)]) == (0 : Int))
   ((List.length (stL l) = (0 : Nat)) ∧
   ((Option.isNone (starL l) = false) ∧
   ((Eq (α := List Value) (gC enF l) (gC enF l)) ∧
   ((Plain (gC enF l)) ∧
   ((Eq (α := List Value) (gC enS (stL l)) ([])) ∧
   True)))))
   ((((True ∧ True) ∧ ((Plain (elC (alV (Row.mk (List.take (List.length l * (2 : Nat)) (List.drop (0 : Nat) (gC enF l))) true (Ob.cells true)) (ByteArray.mk #[(118 : UInt8), (97 : UInt8), (114 : UInt8), (121 : UInt8)]))) ∧ True) ∧ List.length (L (alV (Row.mk (List.take (List.length l * (2 : Nat)) (List.drop (0 : Nat) (gC enF l))) true (Ob.cells true)) (ByteArray.mk #[(118 : UInt8), (97 : UInt8), (114 : UInt8), (121 : UInt8)]))) ≤ (16777000 : Nat)))) ∧
   (∃ g : GRx, ((List.length g.2 ≤ (16777100 : Nat) ∧ ∀ (x : List UInt8), x ∈ GRx.ps g → List.length x ≤ (16777000 : Nat)) ∧
   (((0 : Nat) = (0 : Nat)) ∧
   ((List.length g.2 = elN (alV (Row.mk (List.take (List.length l * (2 : Nat)) (List.drop (0 : Nat) (gC enF l))) true (Ob.cells true)) (ByteArray.mk #[(118 : UInt8), (97 : UInt8), (114 : UInt8), (121 : UInt8)]))) ∧
   ((g.3 = okS (alV (Row.mk (List.take (List.length l * (2 : Nat)) (List.drop (0 : Nat) (gC enF l))) true (Ob.cells true)) (ByteArray.mk #[(118 : UInt8), (97 : UInt8), (114 : UInt8), (121 : UInt8)]))) ∧
   (((0 : Nat) = (0 : Nat)) ∧
   (((0 : Int) = (0 : Int)) ∧
   ((Eq (α := List Value) (gC enF g.1) (gC enF l)) ∧
   ((Plain (gC enF g.1)) ∧
   ((Eq (α := List Value) (gC enS g.2) (elC (alV (Row.mk (List.take (List.length l * (2 : Nat)) (List.drop (0 : Nat) (gC enF l))) true (Ob.cells true)) (ByteArray.mk #[(118 : UInt8), (97 : UInt8), (114 : UInt8), (121 : UInt8)])))) ∧
   ((Plain (gC enS g.2)) ∧
   ((Eq (α := List Value) ([]) ([])) ∧
   (∀ (side : Bool), (br (side)
    (∀ (y : Unit), ((List.all g.2 nmOk = true) →
    (((0 : Nat) = (0 : Nat)) ∧
    ((List.length (stL l) = List.length (List.map lowerL g.2)) ∧
    ((Option.isNone (starL l) = !g.3) ∧
    ((Eq (α := List Value) (gC enF l) (gC enF g.1)) ∧
    ((Plain (gC enF l)) ∧
    ((Eq (α := List Value) (gC enS (stL l)) (gC enS (List.map lowerL g.2))) ∧
    ((Plain (gC enS (stL l))) ∧
    True)))))))))
    (∀ (y : Unit), ((List.all g.2 nmOk = false) →
    ((List.length (stL l) = (0 : Nat)) ∧
    ((Option.isNone (starL l) = true) ∧
    ((Eq (α := List Value) (gC enF l) (gC enF g.1)) ∧
    ((Plain (gC enF l)) ∧
    ((Eq (α := List Value) (gC enS (stL l)) ([])) ∧
    True)))))))))))))))))))))))) := by kernel_rfl
theorem cRx_ok : ∀ f a rows p v news, cRx f a rows = some (p, v, news) → p → Con Try.prog f a rows v (rows ++ news) := by
  intro f a rows p v news h hp
  have e : ∀ l, decF (gRo enF l).cells = l := fun l => decF_gC l
  unfold cRx at h
  split at h <;> simp only [Option.some.injEq, Prod.mk.injEq, reduceCtorEq] at h <;> obtain ⟨rfl, rfl, rfl⟩ := h
  · obtain ⟨⟨l, rfl, rfl⟩, h1, h2⟩ := hp
    simp only [alV, alN, alB, e, List.append_nil] at h2 ⊢
    exact Ra_con l (L _) h1 h2
  · exact Rs_con (L _) hp
  · exact Rlw_con (L _) (Nat.le_trans hp (by unfold maxLen; decide))
  · exact Rtk_con (L _) hp
theorem Rx_piece : PieceOk ERx 1 (16, pRx, specRx) := by
  refine piece_loop mixed (calls_envC cRx_ok) (lok_envC _ _ _) lm_none (n := 60) (by kernel_rfl) (fun _ : GRx => (0 : Nat)) (fun g i => i ≤ g.ps.length ∧ (g.ps.take i).all nmOk = true) (fun g i => g.ps.length - i) (sl := slRx) (rl := rlRx) (fun g hg => ⟨Nat.zero_le _, rfl⟩) (fun g i hg hi => ?_)
  refine (Rx_round g i _ _).mpr ?_
  obtain ⟨l, ps, ok⟩ := g
  obtain ⟨g1, g2⟩ := hg
  obtain ⟨h1, h2⟩ := hi
  have hm : maxLen = 9223372036854775807 := by unfold maxLen; rfl
  simp only at h1 h2 g1 g2
  simp only [ofNat_eq, toNat_cast, Nat.zero_add, Nat.add_zero, Nat.mul_one, List.drop_zero, bCells_len, bCells_drop, bCells_take, bCells_app, bCells_one, bCells_plain, List.length_replicate, List.length_append, List.length_take, List.length_drop, List.take_length, and_true, true_and, and_self, decide_true, List.length_nil, List.length_cons, Nat.sub_zero, dB_mk, dB_ro, List.take_zero, fPl, sPl, sLen, fLen]
  have ht : i < ps.length → ps.take (i + 1) = ps.take i ++ [ps[i]!] := fun h => by rw [List.take_succ_eq_append_getElem h, getElem!_pos ps i h]
  refine br_if (fun h => br_dec (by omega) ?_) (fun h => ⟨(), by rw [List.take_of_length_le (by omega)] at h2; exact h2, ?_, ?_⟩)
  rotate_left
  · rw [List.take_of_length_le (by omega)]
  · rw [List.take_of_length_le (by omega)]
  have hi : i < ps.length := by omega
  have ht : ps.take (i + 1) = ps.take i ++ [ps[i]] := List.take_succ_eq_append_getElem hi
  obtain ⟨c1, c2⟩ := sGet ps i hi
  have hin := List.getElem_mem hi
  have hx := g2 _ hin
  have w := i64_succ (show i < 9223372036854775807 by omega)
  generalize ps[i] = nm at *
  have hno : nmOk nm = false → ps.all nmOk = false := fun h => by rw [List.all_eq_false]; exact ⟨nm, hin, by simp [h]⟩
  have hlen : (List.map lowerL (ps.take i)).length = i := by rw [List.length_map, List.length_take]; omega
  have htk : (gC enS (List.map lowerL (ps.take i))).take i = gC enS (List.map lowerL (ps.take i)) := List.take_of_length_le (by rw [sLen, hlen]; omega)
  simp only [c1, c2, show (⟨#[42]⟩ : ByteArray) = bs [42] from rfl, strEq_bs, tokS_bs, lowS_bs, bs_len, w, hlen, htk, sOne1, gC_app]
  refine ⟨trivial, br_if (fun k => ⟨(), hno (by unfold nmOk; simp [k])⟩) (fun k => br_dec (by omega) ⟨trivial, by omega, br_intro (fun k2 => ⟨(), hno (by simp at k2; unfold nmOk; simp [k2])⟩) (fun k2 => br_dec (by omega) ⟨trivial, by omega, br_dec (by omega) (br_dec (by omega) ⟨i + 1, ⟨by omega, ?_⟩, by omega, ?_, rfl, ?_⟩)⟩)⟩)⟩
  · simp at k2
    rw [ht, List.all_append, h2]; simp [nmOk, k, k2]
  · rw [ht]; simp; omega
  · rw [ht]; simp
theorem Rx_con (l : List Fl) (hl : l.length ≤ maxLen) (h : (allL l sVary).length ≤ 16777000) : Con Try.prog 16 [.slice (some ⟨0, 0, none⟩) l.length 2] [gRo enF l] (.tuple #[.slice (some ⟨1, 0, none⟩) (stL l).length 1, .bool (starL l).isNone]) [gRo enF l, gOwn enS (stL l)] := by
  refine con_vc (E := ERx) mixed (calls_envC cRx_ok) (lok_envC _ _ _) (M := mRx) (lm_one Rx_piece) (Rx_vc l) ?_
  have hm : maxLen = 9223372036854775807 := by unfold maxLen; rfl
  simp only [ofNat_eq, toNat_cast, Nat.zero_add, Nat.add_zero, Nat.mul_one, List.drop_zero, bCells_len, bCells_drop, bCells_take, bCells_app, bCells_one, bCells_plain, List.length_replicate, List.length_append, List.length_take, List.length_drop, List.take_length, and_true, true_and, and_self, decide_true, List.length_nil, List.length_cons, Nat.sub_zero, dB_mk, dB_ro, List.take_zero, fPl, sPl, sLen, fLen]
  have e4 : (⟨#[118, 97, 114, 121]⟩ : ByteArray) = bs sVary := rfl
  have r1 : ∀ b o, alV ⟨gC enF l, b, o⟩ (bs sVary) = bs (allL l sVary) := fun b o => by unfold alV; simp only; rw [decF_gC, L_bs]
  have r2 : ∀ b o, alB ⟨gC enF l, b, o⟩ (bs sVary) = (allL l sVary).length := fun b o => by unfold alB; simp only; rw [decF_gC, L_bs]
  have r3 : ∀ b o, alN ⟨gC enF l, b, o⟩ (bs sVary) = (allN sVary l : Nat) := fun b o => by unfold alN; simp only; rw [decF_gC, L_bs]
  simp only [fTake, e4, r1, r2, r3, elN_bs, elC_bs, okS_bs, bs_len]
  obtain ⟨s1, s2⟩ := split_len (allL l sVary)
  refine ⟨⟨⟨by omega, fPl _⟩, isF_mk _ _ rfl, by omega, by omega⟩, br_intro (fun k => ?_) (fun k => ?_)⟩
  · have k : allN sVary l = 0 := by
      have k : ((allN sVary l : Nat) : Int) = 0 := by simpa using k
      omega
    have e : starL l = some [] := by unfold starL; rw [all_none _ _ k, split_nil]; rfl
    unfold stL; rw [e]; exact ⟨rfl, rfl, rfl⟩
  · refine ⟨⟨sPl _, by omega⟩, ⟨l, elSp (allL l sVary), okSp (allL l sVary)⟩, ⟨by simp only; unfold elSp; omega, fun x hx => by have := s1 x hx; omega⟩, rfl, rfl, rfl, rfl, br_side (fun _ hy => ?_) (fun _ hy => ?_)⟩
    · simp only at hy ⊢
      cases ho : okSp (allL l sVary) with
      | false =>
        have e : starL l = none := by rw [star_el, ho]; rfl
        have e2 : elSp (allL l sVary) = [] := by
          unfold okSp at ho; unfold elSp
          cases hs : splitL (allL l sVary) with
          | none => rfl
          | some r => rw [hs] at ho; simp at ho
        unfold stL; rw [e, e2]; exact ⟨rfl, rfl, trivial, rfl⟩
      | true =>
        have e : starL l = some ((elSp (allL l sVary)).map lowerL) := by rw [star_el, ho, if_pos rfl]; unfold starE; rw [if_pos hy]
        unfold stL; rw [e]; exact ⟨by simp, rfl, trivial, rfl⟩
    · simp only at hy ⊢
      have ho : okSp (allL l sVary) = true := by
        cases ho : okSp (allL l sVary) with
        | true => rfl
        | false =>
          have e2 : elSp (allL l sVary) = [] := by
            unfold okSp at ho; unfold elSp
            cases hs : splitL (allL l sVary) with
            | none => rfl
            | some r => rw [hs] at ho; simp at ho
          rw [e2] at hy; simp at hy
      have e : starL l = none := by rw [star_el, ho, if_pos rfl]; unfold starE; rw [if_neg (by simp [hy])]
      unfold stL; rw [e]; exact ⟨rfl, rfl, trivial, rfl⟩
end Go.Proofs.Ythmjapgfnpjgnaa.tk
