/- The law: any text's seconds; what any fields say; they stay. -/
import Derived.Test.YtdbeebannnofpaaSz9
import Derived.Test.YtdbeebannnofpaaRows
import Derived.Test.YtdbeebannnofpaaLctOf
import Derived.Test.YtdbeebannnofpaaLrtCtl
import Derived.Test.YtdbeebannnofpaaLfbook
import Derived.Test.YtdbeebannnofpaaLlgt16
set_option linter.unusedSimpArgs false
set_option linter.unusedVariables false
namespace Go.Proofs.Ytdbeebannnofpaa.tk
open Go Go.Ev Go.Sy Go.RowKit Go.Proofs.Ytdbeebannnofpaa.gl
def roomF (r : Row) (n v : ByteArray) : List Value := gC enF (decF r.cells ++ List.replicate 80 ⟨L n, L v⟩)
noncomputable def intF (r0 r1 : Row) (n v : ByteArray) : Bool := fb.sameSe (decF r0.cells) (decF r1.cells ++ List.replicate 80 ⟨L n, L v⟩)
noncomputable def cCt : FuncId → List Value → List Row → Option (Prop × Value × List Row)
  | 14, [.slice (some ⟨0, 0, none⟩) n 2], [r0] => some (IsF r0 n ∧ n ≤ maxLen ∧ ctB r0 ≤ 16777000, .agg ⟨enC (ctR r0)⟩, [])
  | 15, [.slice (some ⟨0, 0, none⟩) n 2], [r0] => some (IsF r0 n ∧ n ≤ maxLen ∧ ctB r0 ≤ 16777000, .agg ⟨enC (ctR r0)⟩, [])
  | 9, [.string s], [] => some ((L s).length ≤ maxLen, .int .i64 (secS s), [])
  | 13, [.string s], [] => some ((L s).length ≤ maxLen, .int .i64 (secS s), [])
  | 11, [.slice (some ⟨0, 0, none⟩) n 2], [r0] => some (IsF r0 n ∧ n ≤ 1048576 ∧ ShR r0, .bool (lgR r0), [])
  | 12, [.slice (some ⟨0, 0, none⟩) n 2, .agg ⟨[.string a, .string b]⟩], [r0] => some (IsF r0 n ∧ n ≤ 16777136, .slice (some ⟨1, 0, none⟩) (n + 80) 2, [⟨roomF r0 a b, false, .cells true⟩])
  | 16, [.slice (some ⟨0, 0, none⟩) n 2, .slice (some ⟨1, 0, none⟩) m 2, .agg ⟨[.string a, .string b]⟩], [r0, r1] => some (IsF r0 n ∧ IsF r1 m ∧ n ≤ maxLen ∧ m ≤ 16777136, .bool (intF r0 r1 a b), [])
  | 3, [], [] => some (True, .bool true, [])
  | _, _, _ => none
def kCt (f : FuncId) : Bool := Nat.beq f 14 || Nat.beq f 15 || Nat.beq f 9 || Nat.beq f 13 || Nat.beq f 11 || Nat.beq f 12 || Nat.beq f 16 || Nat.beq f 3
noncomputable abbrev ECt : Env := envC Try.prog cCt kCt
theorem Ct_vc (s : List UInt8) (l : List Fl) : mcall ECt noM 60 4 [.string (bs s), .slice (some ⟨0, 0, none⟩) l.length 2] ⟨mkR (nums 0 [gRo enF l]), 1⟩ (retIs 1 (.bool true) [gRo enF l]) =
  (br (decide (Int.ofNat (List.length (Array.toList (ByteArray.data (bs s)))) > (300 : Int)))
   (((True ∧ (True ∧ True))) ∧
   ((true = true) ∧
   ((Eq (α := List Value) (gC enF l) (gC enF l)) ∧
   ((Plain (gC enF l)) ∧
   True))))
   ((((((0 : Nat) + List.length l * (2 : Nat) ≤ List.length (gC enF l) ∧ Plain (List.take (List.length l * (2 : Nat)) (List.drop (0 : Nat) (gC enF l)))) ∧ True) ∧ (True ∧ (IsF (Row.mk (List.take (List.length l * (2 : Nat)) (List.drop (0 : Nat) (gC enF l))) true (Ob.cells true)) (List.length l) ∧ (List.length l ≤ (1048576 : Nat) ∧ ShR (Row.mk (List.take (List.length l * (2 : Nat)) (List.drop (0 : Nat) (gC enF l))) true (Ob.cells true))))))) ∧
   (br (!lgR (Row.mk (List.take (List.length l * (2 : Nat)) (List.drop (0 : Nat) (gC enF l))) true (Ob.cells true)))
    (((True ∧ (True ∧ True))) ∧
    ((true = true) ∧
    ((Eq (α := List Value) (gC enF l) (gC enF l)) ∧
    ((Plain (gC enF l)) ∧
    True))))
    ((((((0 : Nat) + List.length l * (2 : Nat) ≤ List.length (gC enF l) ∧ Plain (List.take (List.length l * (2 : Nat)) (List.drop (0 : Nat) (gC enF l)))) ∧ ((True ∧ (True ∧ True)) ∧ True)) ∧ ((Plain (roomF (Row.mk (List.take (List.length l * (2 : Nat)) (List.drop (0 : Nat) (gC enF l))) true (Ob.cells true)) (ByteArray.mk #[(109 : UInt8)]) (ByteArray.mk #[])) ∧ True) ∧ (IsF (Row.mk (List.take (List.length l * (2 : Nat)) (List.drop (0 : Nat) (gC enF l))) true (Ob.cells true)) (List.length l) ∧ List.length l ≤ (16777136 : Nat))))) ∧
    ((((True ∧ True) ∧ (True ∧ List.length (L (bs s)) ≤ (9223372036854775807 : Nat)))) ∧
    ((((True ∧ True) ∧ (True ∧ List.length (L (bs s)) ≤ (9223372036854775807 : Nat)))) ∧
    (br (secS (bs s) == secS (bs s))
     (br (decide ((0 : Int) ≤ (↑(0 : Nat) : Int) ∧ (0 : Int) ≤ Int.ofNat (List.length l) ∧ Int.ofNat (List.length l) ≤ (↑(List.length l + (80 : Nat)) : Int)))
      ((((((0 : Nat) + (Int.toNat (Int.ofNat (List.length l)) - (0 : Nat)) * (2 : Nat) ≤ List.length (roomF (Row.mk (List.take (List.length l * (2 : Nat)) (List.drop (0 : Nat) (gC enF l))) true (Ob.cells true)) (ByteArray.mk #[(109 : UInt8)]) (ByteArray.mk #[])) ∧ Plain (List.take ((Int.toNat (Int.ofNat (List.length l)) - (0 : Nat)) * (2 : Nat)) (List.drop (0 : Nat) (roomF (Row.mk (List.take (List.length l * (2 : Nat)) (List.drop (0 : Nat) (gC enF l))) true (Ob.cells true)) (ByteArray.mk #[(109 : UInt8)]) (ByteArray.mk #[]))))) ∧ True) ∧ (True ∧ (IsF (Row.mk (List.take ((Int.toNat (Int.ofNat (List.length l)) - (0 : Nat)) * (2 : Nat)) (List.drop (0 : Nat) (roomF (Row.mk (List.take (List.length l * (2 : Nat)) (List.drop (0 : Nat) (gC enF l))) true (Ob.cells true)) (ByteArray.mk #[(109 : UInt8)]) (ByteArray.mk #[])))) true (Ob.cells true)) (Int.toNat (Int.ofNat (List.length l)) - (0 : Nat)) ∧ (Int.toNat (Int.ofNat (List.length l)) - (0 : Nat) ≤ (9223372036854775807 : Nat) ∧ ctB (Row.mk (List.take ((Int.toNat (Int.ofNat (List.length l)) - (0 : Nat)) * (2 : Nat)) (List.drop (0 : Nat) (roomF (Row.mk (List.take (List.length l * (2 : Nat)) (List.drop (0 : Nat) (gC enF l))) true (Ob.cells true)) (ByteArray.mk #[(109 : UInt8)]) (ByteArray.mk #[])))) true (Ob.cells true)) ≤ (16777000 : Nat)))))) ∧
      ((((((0 : Nat) + List.length l * (2 : Nat) ≤ List.length (gC enF l) ∧ Plain (List.take (List.length l * (2 : Nat)) (List.drop (0 : Nat) (gC enF l)))) ∧ True) ∧ (True ∧ (IsF (Row.mk (List.take (List.length l * (2 : Nat)) (List.drop (0 : Nat) (gC enF l))) true (Ob.cells true)) (List.length l) ∧ (List.length l ≤ (9223372036854775807 : Nat) ∧ ctB (Row.mk (List.take (List.length l * (2 : Nat)) (List.drop (0 : Nat) (gC enF l))) true (Ob.cells true)) ≤ (16777000 : Nat)))))) ∧
      (br ((ctR (Row.mk (List.take ((Int.toNat (Int.ofNat (List.length l)) - (0 : Nat)) * (2 : Nat)) (List.drop (0 : Nat) (roomF (Row.mk (List.take (List.length l * (2 : Nat)) (List.drop (0 : Nat) (gC enF l))) true (Ob.cells true)) (ByteArray.mk #[(109 : UInt8)]) (ByteArray.mk #[])))) true (Ob.cells true))).1 == (ctR (Row.mk (List.take (List.length l * (2 : Nat)) (List.drop (0 : Nat) (gC enF l))) true (Ob.cells true))).1 && ((ctR (Row.mk (List.take ((Int.toNat (Int.ofNat (List.length l)) - (0 : Nat)) * (2 : Nat)) (List.drop (0 : Nat) (roomF (Row.mk (List.take (List.length l * (2 : Nat)) (List.drop (0 : Nat) (gC enF l))) true (Ob.cells true)) (ByteArray.mk #[(109 : UInt8)]) (ByteArray.mk #[])))) true (Ob.cells true))).2 == (ctR (Row.mk (List.take (List.length l * (2 : Nat)) (List.drop (0 : Nat) (gC enF l))) true (Ob.cells true))).2 && ((ctR (Row.mk (List.take ((Int.toNat (Int.ofNat (List.length l)) - (0 : Nat)) * (2 : Nat)) (List.drop (0 : Nat) (roomF (Row.mk (List.take (List.length l * (2 : Nat)) (List.drop (0 : Nat) (gC enF l))) true (Ob.cells true)) (ByteArray.mk #[(109 : UInt8)]) (ByteArray.mk #[])))) true (Ob.cells true))).3 == (ctR (Row.mk (List.take (List.length l * (2 : Nat)) (List.drop (0 : Nat) (gC enF l))) true (Ob.cells true))).3 && ((ctR (Row.mk (List.take ((Int.toNat (Int.ofNat (List.length l)) - (0 : Nat)) * (2 : Nat)) (List.drop (0 : Nat) (roomF (Row.mk (List.take (List.length l * (2 : Nat)) (List.drop (0 : Nat) (gC enF l))) true (Ob.cells true)) (ByteArray.mk #[(109 : UInt8)]) (ByteArray.mk #[])))) true (Ob.cells true))).4 == (ctR (Row.mk (List.take (List.length l * (2 : Nat)) (List.drop (0 : Nat) (gC enF l))) true (Ob.cells true))).4 && ((ctR (Row.mk (List.take ((Int.toNat (Int.ofNat (List.length l)) - (0 : Nat)) * (2 : Nat)) (List.drop (0 : Nat) (roomF (Row.mk (List.take (List.length l * (2 : Nat)) (List.drop (0 : Nat) (gC enF l))) true (Ob.cells true)) (ByteArray.mk #[(109 : UInt8)]) (ByteArray.mk #[])))) true (Ob.cells true))).5 == (ctR (Row.mk (List.take (List.length l * (2 : Nat)) (List.drop (0 : Nat) (gC enF l))) true (Ob.cells true))).5 && ((ctR (Row.mk (List.take ((Int.toNat (Int.ofNat (List.length l)) - (0 : Nat)) * (2 : Nat)) (List.drop (0 : Nat) (roomF (Row.mk (List.take (List.length l * (2 : Nat)) (List.drop (0 : Nat) (gC enF l))) true (Ob.cells true)) (ByteArray.mk #[(109 : UInt8)]) (ByteArray.mk #[])))) true (Ob.cells true))).6 == (ctR (Row.mk (List.take (List.length l * (2 : Nat)) (List.drop (0 : Nat) (gC enF l))) true (Ob.cells true))).6 && ((ctR (Row.mk (List.take ((Int.toNat (Int.ofNat (List.length l)) - (0 : Nat)) * (2 : Nat)) (List.drop (0 : Nat) (roomF (Row.mk (List.take (List.length l * (2 : Nat)) (List.drop (0 : Nat) (gC enF l))) true (Ob.cells true)) (ByteArray.mk #[(109 : UInt8)]) (ByteArray.mk #[])))) true (Ob.cells true))).7 == (ctR (Row.mk (List.take (List.length l * (2 : Nat)) (List.drop (0 : Nat) (gC enF l))) true (Ob.cells true))).7 && ((ctR (Row.mk (List.take ((Int.toNat (Int.ofNat (List.length l)) - (0 : Nat)) * (2 : Nat)) (List.drop (0 : Nat) (roomF (Row.mk (List.take (List.length l * (2 : Nat)) (List.drop (0 : Nat) (gC enF l))) true (Ob.cells true)) (ByteArray.mk #[(109 : UInt8)]) (ByteArray.mk #[])))) true (Ob.cells true))).8 == (ctR (Row.mk (List.take (List.length l * (2 : Nat)) (List.drop (0 : Nat) (gC enF l))) true (Ob.cells true))).8 && ((ctR (Row.mk (List.take ((Int.toNat (Int.ofNat (List.length l)) - (0 : Nat)) * (2 : Nat)) (List.drop (0 : Nat) (roomF (Row.mk (List.take (List.length l * (2 : Nat)) (List.drop (0 : Nat) (gC enF l))) true (Ob.cells true)) (ByteArray.mk #[(109 : UInt8)]) (ByteArray.mk #[])))) true (Ob.cells true))).9 == (ctR (Row.mk (List.take (List.length l * (2 : Nat)) (List.drop (0 : Nat) (gC enF l))) true (Ob.cells true))).9 && ((ctR (Row.mk (List.take ((Int.toNat (Int.ofNat (List.length l)) - (0 : Nat)) * (2 : Nat)) (List.drop (0 : Nat) (roomF (Row.mk (List.take (List.length l * (2 : Nat)) (List.drop (0 : Nat) (gC enF l))) true (Ob.cells true)) (ByteArray.mk #[(109 : UInt8)]) (ByteArray.mk #[])))) true (Ob.cells true))).10 == (ctR (Row.mk (List.take (List.length l * (2 : Nat)) (List.drop (0 : Nat) (gC enF l))) true (Ob.cells true))).10 && true))))))))))
       ((((((0 : Nat) + (List.length l + (80 : Nat)) * (2 : Nat) ≤ List.length (roomF (Row.mk (List.take (List.length l * (2 : Nat)) (List.drop (0 : Nat) (gC enF l))) true (Ob.cells true)) (ByteArray.mk #[(109 : UInt8)]) (ByteArray.mk #[])) ∧ Plain (List.take ((List.length l + (80 : Nat)) * (2 : Nat)) (List.drop (0 : Nat) (roomF (Row.mk (List.take (List.length l * (2 : Nat)) (List.drop (0 : Nat) (gC enF l))) true (Ob.cells true)) (ByteArray.mk #[(109 : UInt8)]) (ByteArray.mk #[]))))) ∧ (((0 : Nat) + List.length l * (2 : Nat) ≤ List.length (gC enF l) ∧ Plain (List.take (List.length l * (2 : Nat)) (List.drop (0 : Nat) (gC enF l)))) ∧ ((True ∧ (True ∧ True)) ∧ True))) ∧ (True ∧ (IsF (Row.mk (List.take ((List.length l + (80 : Nat)) * (2 : Nat)) (List.drop (0 : Nat) (roomF (Row.mk (List.take (List.length l * (2 : Nat)) (List.drop (0 : Nat) (gC enF l))) true (Ob.cells true)) (ByteArray.mk #[(109 : UInt8)]) (ByteArray.mk #[])))) true (Ob.cells true)) (List.length l + (80 : Nat)) ∧ (IsF (Row.mk (List.take (List.length l * (2 : Nat)) (List.drop (0 : Nat) (gC enF l))) true (Ob.cells true)) (List.length l) ∧ (List.length l + (80 : Nat) ≤ (9223372036854775807 : Nat) ∧ List.length l ≤ (16777136 : Nat))))))) ∧
       (br (intF (Row.mk (List.take ((List.length l + (80 : Nat)) * (2 : Nat)) (List.drop (0 : Nat) (roomF (Row.mk (List.take (List.length l * (2 : Nat)) (List.drop (0 : Nat) (gC enF l))) true (Ob.cells true)) (ByteArray.mk #[(109 : UInt8)]) (ByteArray.mk #[])))) true (Ob.cells true)) (Row.mk (List.take (List.length l * (2 : Nat)) (List.drop (0 : Nat) (gC enF l))) true (Ob.cells true)) (ByteArray.mk #[(109 : UInt8)]) (ByteArray.mk #[]))
        (((True ∧ (True ∧ True))) ∧
        ((true = true) ∧
        ((Eq (α := List Value) (gC enF l) (gC enF l)) ∧
        ((Plain (gC enF l)) ∧
        True))))
        ((true = false) ∧
        ((Eq (α := List Value) (gC enF l) (gC enF l)) ∧
        ((Plain (gC enF l)) ∧
        True)))))
       ((true = false) ∧
       ((Eq (α := List Value) (gC enF l) (gC enF l)) ∧
       ((Plain (gC enF l)) ∧
       True))))))
      False)
     ((true = false) ∧
     ((Eq (α := List Value) (gC enF l) (gC enF l)) ∧
     ((Plain (gC enF l)) ∧
     True)))))))))) := by kernel_rfl
theorem cCt_ok : ∀ f a rows p v news, cCt f a rows = some (p, v, news) → p → Con Try.prog f a rows v (rows ++ news) := by
  intro f a rows p v news h hp
  have e : ∀ l, decF (gRo enF l).cells = l := fun l => decF_gC l
  unfold cCt at h
  split at h <;> simp only [Option.some.injEq, Prod.mk.injEq, reduceCtorEq] at h <;> obtain ⟨rfl, rfl, rfl⟩ := h
  · obtain ⟨⟨l, rfl, rfl⟩, h1, h2⟩ := hp
    simp only [ctB, ctR, e, List.append_nil] at h2 ⊢
    exact Co_con l h1 h2
  · obtain ⟨⟨l, rfl, rfl⟩, h1, h2⟩ := hp
    simp only [ctB, ctR, e, List.append_nil] at h2 ⊢
    exact Rc_con l h1 h2
  · exact Se_con (L _) hp
  · exact Rn_con (L _) hp
  · obtain ⟨⟨l, rfl, rfl⟩, h1, h2⟩ := hp
    simp only [ShR, lgR, e, List.append_nil] at h2 ⊢
    exact Lg_con l h1 h2
  · obtain ⟨⟨l, rfl, rfl⟩, hl⟩ := hp
    simp only [roomF, e]
    exact fb.roomy_con l ⟨L _, L _⟩ hl
  · obtain ⟨⟨x, rfl, rfl⟩, ⟨y, rfl, rfl⟩, h1, h2⟩ := hp
    simp only [intF, e, List.append_nil]
    exact fb.int_con x y ⟨L _, L _⟩ h1 (by omega)
  · exact con_run mixed (n := 1000000) (by kernel_rfl) (by kernel_rfl)
theorem ct_law (s : ByteArray) (l : List Fl) (hs : s.size ≤ 1048576) (hl : l.length ≤ 1048576) (hf : ∀ f ∈ l, f.n.length ≤ 1048576 ∧ f.v.length ≤ 1048576) :
    Con Try.prog 4 [.string s, .slice (some ⟨0, 0, none⟩) l.length 2] [gRo enF l] (.bool true) [gRo enF l] := by
  obtain ⟨s, rfl⟩ : ∃ l, s = bs l := ⟨L s, rfl⟩
  have hs : s.length ≤ 1048576 := hs
  refine con_vc (E := ECt) mixed (calls_envC cCt_ok) (lok_envC _ _ _) (M := noM) lm_none (Ct_vc s l) ?_
  have hm : maxLen = 9223372036854775807 := by unfold maxLen; rfl
  have hse : ∀ s, secS (bs s) = secL s := fun s => rfl
  obtain ⟨fr, hfr⟩ : ∃ fr, fr = l ++ List.replicate 80 (⟨[109], []⟩ : Fl) := ⟨_, rfl⟩
  have r1 : ∀ b o, roomF ⟨gC enF l, b, o⟩ (bs [109]) (bs []) = gC enF fr := fun b o => by unfold roomF; simp only; rw [decF_gC, hfr]; rfl
  have r2 : fr.length = l.length + 80 := by rw [hfr]; simp
  have r3 : (gC enF fr).take (l.length * 2) = gC enF l := by rw [gC_take enF_k, hfr]; simp
  have r4 : (gC enF fr).take ((l.length + 80) * 2) = gC enF fr := by rw [← r2]; exact fTake fr
  have r5 : ∀ b o, ctR ⟨gC enF l, b, o⟩ = ctlL l := fun b o => by unfold ctR; simp only; rw [decF_gC]
  have r6 : ∀ b o, ctB ⟨gC enF l, b, o⟩ = (allL l sCC).length := fun b o => by unfold ctB; simp only; rw [decF_gC]
  have r7 : ∀ b o, lgR ⟨gC enF l, b, o⟩ = lgB l := fun b o => by unfold lgR; simp only; rw [decF_gC]
  have r8 : ∀ b o, ShR ⟨gC enF l, b, o⟩ := fun b o => by unfold ShR; simp only; rw [decF_gC]; exact hf
  have r9 : ∀ b o b' o', intF ⟨gC enF fr, b, o⟩ ⟨gC enF l, b', o'⟩ (bs [109]) (bs []) = true := fun b o b' o' => by
    unfold intF; simp only; rw [decF_gC, decF_gC]
    exact fb.sameSe_yes (by rw [hfr]; rfl)
  simp only [ofNat_eq, toNat_cast, Nat.zero_add, Nat.add_zero, Nat.mul_one, List.drop_zero, bCells_len, bCells_drop, bCells_take, bCells_app, bCells_one, bCells_plain, List.length_replicate, List.length_append, List.length_take, List.length_drop, List.take_length, and_true, true_and, and_self, decide_true, List.length_nil, List.length_cons, Nat.sub_zero, dB_mk, dB_ro, List.take_zero, bs_d, fPl, fLen, fTake, hse, bs_len, mk_bs, r1, r2, r3, r4, r5, r6, r7, r8, r9]
  refine br_if (fun _ => trivial) (fun h1 => ⟨⟨Nat.le_refl _, isF_mk _ _ rfl, by omega⟩, br_intro (fun _ => trivial) (fun h2 => ?_)⟩)
  have hlg : lgN l ≤ 2000 := by unfold lgB at h2; simpa using h2
  have ha := allL_le l sCC
  refine ⟨⟨Nat.le_refl _, isF_mk _ _ rfl, by omega⟩, by omega, by omega, br_b (by simp) (br_dec (by omega) ⟨⟨by omega, isF_mk _ _ rfl, by omega, by omega⟩, ⟨Nat.le_refl _, isF_mk _ _ rfl, by omega, by omega⟩, br_b (by simp) ?_⟩)⟩
  exact ⟨⟨⟨Nat.le_refl _, Nat.le_refl _⟩, isF_mk _ _ r2.symm, isF_mk _ _ rfl, by omega, by omega⟩, br_b rfl trivial⟩
end Go.Proofs.Ytdbeebannnofpaa.tk
