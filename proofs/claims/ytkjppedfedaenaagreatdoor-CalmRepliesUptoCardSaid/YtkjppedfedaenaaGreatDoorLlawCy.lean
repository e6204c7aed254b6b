/- CalmReplies: any rule's reply to any talk. -/
import Derived.Test.YtkjppedfedaenaaGreatDoorSz9
import Derived.Test.YtkjppedfedaenaaGreatDoorRows
import Derived.Test.YtkjppedfedaenaaGreatDoorLcyD
import Derived.Test.YtkjppedfedaenaaGreatDoorLcySm
import Derived.Test.YtkjppedfedaenaaGreatDoorLlawCc
set_option maxRecDepth 20000
set_option linter.unusedSimpArgs false
set_option linter.unusedVariables false
namespace Go.Proofs.YtkjppedfedaenaaGreatDoor.cy
open Go Go.Ev Go.Sy Go.RowKit Go.Proofs.YtkjppedfedaenaaGreatDoor.gl Go.Proofs.YtkjppedfedaenaaGreatDoor.tk Go.Proofs.YtkjppedfedaenaaGreatDoor.sn
noncomputable def reQ : Int → ByteArray → ByteArray → Row → Row → List Rw := sealV fun st c t r0 r1 => reU ⟨st, L c, L t, []⟩ (decF r1.cells) (decF r0.cells)
noncomputable def boQ : Int → ByteArray → ByteArray → ByteArray → Row → ByteArray := sealV fun st c t b r1 => bs (boU ⟨st, L c, L t, L b⟩ (decF r1.cells))
noncomputable def eRe : EntM := entC 7 fun a r => match a, r with
  | [.agg ⟨[.int .i64 st, .string c, .string t, .string b, .slice (some ⟨0, 0, none⟩) n 2]⟩, .agg ⟨[.int .i64 _, .int .i64 _, .int .i64 _, .slice (some ⟨1, 0, none⟩) m 2, .string _, .bool _, .bool _, .int .i64 _, .int .i64 _]⟩], [r0, r1] => some (I64 st ∧ (IsF r0 n ∧ n ≤ 1048576) ∧ IsF r1 m ∧ m ≤ maxLen, .tuple #[.slice (some ⟨2, 0, none⟩) (reQ st c t r0 r1).length 3, .string (boQ st c t b r1)], [gOwn enR (reQ st c t r0 r1)])
  | _, _ => none
noncomputable def eRr : EntM := entC 21 fun a r => match a, r with
  | [.agg ⟨[.int .i64 st, .string c, .string t, .string b, .slice (some ⟨0, 0, none⟩) n 2]⟩, .agg ⟨[.int .i64 _, .int .i64 _, .int .i64 _, .slice (some ⟨1, 0, none⟩) m 2, .string _, .bool _, .bool _, .int .i64 _, .int .i64 _]⟩], [r0, r1] => some (I64 st ∧ (IsF r0 n ∧ n ≤ 1048576) ∧ IsF r1 m ∧ m ≤ maxLen, .tuple #[.slice (some ⟨2, 0, none⟩) (reQ st c t r0 r1).length 3, .string (boQ st c t b r1)], [gOwn enR (reQ st c t r0 r1)])
  | _, _ => none
noncomputable def eRunsC : EntM := entC 3 fun a r => match a, r with
  | [], [] => some (True, .bool true, [])
  | _, _ => none
noncomputable def tCy : List EntM := [eRe, eRr, eSm, eLgt, eRunsC]
noncomputable abbrev EtCy : Env := envT Tryz.prog tCy
theorem Cy_vc (st : Int) (c t b : ByteArray) (X : List Fl) (p l s : Int) (F : List Fl) (bd : ByteArray) (e r : Bool) (k a : Int) : mcall EtCy noM 60 4 [.agg ⟨[.int .i64 st, .string c, .string t, .string b, .slice (some ⟨0, 0, none⟩) X.length 2]⟩, .agg ⟨[.int .i64 p, .int .i64 l, .int .i64 s, .slice (some ⟨1, 0, none⟩) F.length 2, .string bd, .bool e, .bool r, .int .i64 k, .int .i64 a]⟩] ⟨mkR (nums 0 [gRo enF X, gRo enF F]), 2⟩ (retIs 2 (.bool true) [gRo enF X, gRo enF F]) =
  (((((0 + List.length X * 2 <= List.length (gC enF X) /\ Plain (List.take (List.length X * 2) (List.drop 0 (gC enF X)))) /\ True) /\ ((True /\ True) /\ (True /\ (IsF
  (Row.mk (List.take (List.length X * 2) (List.drop 0 (gC enF X))) true (Ob.cells true)) (List.length X) /\ (List.length X <= 1048576 /\ ShR (Row.mk (List.take (List.length
  X * 2) (List.drop 0 (gC enF X))) true (Ob.cells true)))))))) /\ (br (lgR (Row.mk (List.take (List.length X * 2) (List.drop 0 (gC enF X))) true (Ob.cells true))) (br
  (decide (Int.ofNat (List.length (Array.toList (ByteArray.data b))) <= (4000 : Int))) (br (decide (Int.ofNat (List.length (Array.toList (ByteArray.data c))) <= (300 :
  Int))) (br (!decide (Int.ofNat (List.length (Array.toList (ByteArray.data t))) <= (100 : Int))) (((True /\ (True /\ (True /\ True)))) /\ ((true = true) /\ ((Eq (α := List
  Value) (gC enF X) (gC enF X)) /\ ((Plain (gC enF X)) /\ ((Eq (α := List Value) (gC enF F) (gC enF F)) /\ ((Plain (gC enF F)) /\ True)))))) (((((0 + List.length F * 2 <=
  List.length (gC enF F) /\ Plain (List.take (List.length F * 2) (List.drop 0 (gC enF F)))) /\ True) /\ ((True /\ True) /\ (True /\ (IsF (Row.mk (List.take (List.length F *
  2) (List.drop 0 (gC enF F))) true (Ob.cells true)) (List.length F) /\ (List.length F <= 1048576 /\ ShR (Row.mk (List.take (List.length F * 2) (List.drop 0 (gC enF F)))
  true (Ob.cells true)))))))) /\ (br (!lgR (Row.mk (List.take (List.length F * 2) (List.drop 0 (gC enF F))) true (Ob.cells true))) (((True /\ (True /\ (True /\ True)))) /\
  ((true = true) /\ ((Eq (α := List Value) (gC enF X) (gC enF X)) /\ ((Plain (gC enF X)) /\ ((Eq (α := List Value) (gC enF F) (gC enF F)) /\ ((Plain (gC enF F)) /\
  True)))))) (((((True /\ (True /\ (True /\ (True /\ ((0 + List.length X * 2 <= List.length (gC enF X) /\ Plain (List.take (List.length X * 2) (List.drop 0 (gC enF X)))) /\
  True))))) /\ ((True /\ (True /\ (True /\ ((0 + List.length F * 2 <= List.length (gC enF F) /\ Plain (List.take (List.length F * 2) (List.drop 0 (gC enF F)))) /\ (True /\
  (True /\ (True /\ (True /\ (True /\ True))))))))) /\ True)) /\ ((True /\ (True /\ True)) /\ ((Plain (gC enR (reQ st c t (Row.mk (List.take (List.length X * 2) (List.drop 0
  (gC enF X))) true (Ob.cells true)) (Row.mk (List.take (List.length F * 2) (List.drop 0 (gC enF F))) true (Ob.cells true)))) /\ True) /\ (I64 st /\ ((IsF (Row.mk (List.take
  (List.length X * 2) (List.drop 0 (gC enF X))) true (Ob.cells true)) (List.length X) /\ List.length X <= 1048576) /\ (IsF (Row.mk (List.take (List.length F * 2) (List.drop
  0 (gC enF F))) true (Ob.cells true)) (List.length F) /\ List.length F <= 9223372036854775807))))))) /\ (((((True /\ (True /\ (True /\ (True /\ ((0 + List.length X * 2 <=
  List.length (gC enF X) /\ Plain (List.take (List.length X * 2) (List.drop 0 (gC enF X)))) /\ True))))) /\ ((True /\ (True /\ (True /\ ((0 + List.length F * 2 <=
  List.length (gC enF F) /\ Plain (List.take (List.length F * 2) (List.drop 0 (gC enF F)))) /\ (True /\ (True /\ (True /\ (True /\ (True /\ True))))))))) /\ True)) /\ ((True
  /\ (True /\ True)) /\ ((Plain (gC enR (reQ st c t (Row.mk (List.take (List.length X * 2) (List.drop 0 (gC enF X))) true (Ob.cells true)) (Row.mk (List.take (List.length F
  * 2) (List.drop 0 (gC enF F))) true (Ob.cells true)))) /\ True) /\ (I64 st /\ ((IsF (Row.mk (List.take (List.length X * 2) (List.drop 0 (gC enF X))) true (Ob.cells true))
  (List.length X) /\ List.length X <= 1048576) /\ (IsF (Row.mk (List.take (List.length F * 2) (List.drop 0 (gC enF F))) true (Ob.cells true)) (List.length F) /\ List.length
  F <= 9223372036854775807))))))) /\ (((((0 + List.length (reQ st c t (Row.mk (List.take (List.length X * 2) (List.drop 0 (gC enF X))) true (Ob.cells true)) (Row.mk
  (List.take (List.length F * 2) (List.drop 0 (gC enF F))) true (Ob.cells true))) * 3 <= List.length (gC enR (reQ st c t (Row.mk (List.take (List.length X * 2) (List.drop 0
  (gC enF X))) true (Ob.cells true)) (Row.mk (List.take (List.length F * 2) (List.drop 0 (gC enF F))) true (Ob.cells true)))) /\ Plain (List.take (List.length (reQ st c t
  (Row.mk (List.take (List.length X * 2) (List.drop 0 (gC enF X))) true (Ob.cells true)) (Row.mk (List.take (List.length F * 2) (List.drop 0 (gC enF F))) true (Ob.cells
  true))) * 3) (List.drop 0 (gC enR (reQ st c t (Row.mk (List.take (List.length X * 2) (List.drop 0 (gC enF X))) true (Ob.cells true)) (Row.mk (List.take (List.length F * 2)
  (List.drop 0 (gC enF F))) true (Ob.cells true))))))) /\ ((0 + List.length (reQ st c t (Row.mk (List.take (List.length X * 2) (List.drop 0 (gC enF X))) true (Ob.cells
  true)) (Row.mk (List.take (List.length F * 2) (List.drop 0 (gC enF F))) true (Ob.cells true))) * 3 <= List.length (gC enR (reQ st c t (Row.mk (List.take (List.length X *
  2) (List.drop 0 (gC enF X))) true (Ob.cells true)) (Row.mk (List.take (List.length F * 2) (List.drop 0 (gC enF F))) true (Ob.cells true)))) /\ Plain (List.take
  (List.length (reQ st c t (Row.mk (List.take (List.length X * 2) (List.drop 0 (gC enF X))) true (Ob.cells true)) (Row.mk (List.take (List.length F * 2) (List.drop 0 (gC enF
  F))) true (Ob.cells true))) * 3) (List.drop 0 (gC enR (reQ st c t (Row.mk (List.take (List.length X * 2) (List.drop 0 (gC enF X))) true (Ob.cells true)) (Row.mk (List.take
  (List.length F * 2) (List.drop 0 (gC enF F))) true (Ob.cells true))))))) /\ True)) /\ ((True /\ (True /\ True)) /\ (True /\ (IsRw (Row.mk (List.take (List.length (reQ st c
  t (Row.mk (List.take (List.length X * 2) (List.drop 0 (gC enF X))) true (Ob.cells true)) (Row.mk (List.take (List.length F * 2) (List.drop 0 (gC enF F))) true (Ob.cells
  true))) * 3) (List.drop 0 (gC enR (reQ st c t (Row.mk (List.take (List.length X * 2) (List.drop 0 (gC enF X))) true (Ob.cells true)) (Row.mk (List.take (List.length F * 2)
  (List.drop 0 (gC enF F))) true (Ob.cells true)))))) true (Ob.cells true)) (List.length (reQ st c t (Row.mk (List.take (List.length X * 2) (List.drop 0 (gC enF X))) true
  (Ob.cells true)) (Row.mk (List.take (List.length F * 2) (List.drop 0 (gC enF F))) true (Ob.cells true)))) /\ (Row.mk (List.take (List.length (reQ st c t (Row.mk (List.take
  (List.length X * 2) (List.drop 0 (gC enF X))) true (Ob.cells true)) (Row.mk (List.take (List.length F * 2) (List.drop 0 (gC enF F))) true (Ob.cells true))) * 3) (List.drop
  0 (gC enR (reQ st c t (Row.mk (List.take (List.length X * 2) (List.drop 0 (gC enF X))) true (Ob.cells true)) (Row.mk (List.take (List.length F * 2) (List.drop 0 (gC enF
  F))) true (Ob.cells true)))))) true (Ob.cells true) = Row.mk (List.take (List.length (reQ st c t (Row.mk (List.take (List.length X * 2) (List.drop 0 (gC enF X))) true
  (Ob.cells true)) (Row.mk (List.take (List.length F * 2) (List.drop 0 (gC enF F))) true (Ob.cells true))) * 3) (List.drop 0 (gC enR (reQ st c t (Row.mk (List.take
  (List.length X * 2) (List.drop 0 (gC enF X))) true (Ob.cells true)) (Row.mk (List.take (List.length F * 2) (List.drop 0 (gC enF F))) true (Ob.cells true)))))) true
  (Ob.cells true) /\ (List.length (reQ st c t (Row.mk (List.take (List.length X * 2) (List.drop 0 (gC enF X))) true (Ob.cells true)) (Row.mk (List.take (List.length F * 2)
  (List.drop 0 (gC enF F))) true (Ob.cells true))) = List.length (reQ st c t (Row.mk (List.take (List.length X * 2) (List.drop 0 (gC enF X))) true (Ob.cells true)) (Row.mk
  (List.take (List.length F * 2) (List.drop 0 (gC enF F))) true (Ob.cells true))) /\ List.length (reQ st c t (Row.mk (List.take (List.length X * 2) (List.drop 0 (gC enF X)))
  true (Ob.cells true)) (Row.mk (List.take (List.length F * 2) (List.drop 0 (gC enF F))) true (Ob.cells true))) <= 9223372036854775807))))))) /\ (br (strEq (boQ st c t b
  (Row.mk (List.take (List.length F * 2) (List.drop 0 (gC enF F))) true (Ob.cells true))) (boQ st c t b (Row.mk (List.take (List.length F * 2) (List.drop 0 (gC enF F))) true
  (Ob.cells true)))) (((True /\ (True /\ (True /\ True)))) /\ ((true = true) /\ ((Eq (α := List Value) (gC enF X) (gC enF X)) /\ ((Plain (gC enF X)) /\ ((Eq (α := List
  Value) (gC enF F) (gC enF F)) /\ ((Plain (gC enF F)) /\ True)))))) ((true = false) /\ ((Eq (α := List Value) (gC enF X) (gC enF X)) /\ ((Plain (gC enF X)) /\ ((Eq (α :=
  List Value) (gC enF F) (gC enF F)) /\ ((Plain (gC enF F)) /\ True)))))))))))) (((True /\ (True /\ (True /\ True)))) /\ ((true = true) /\ ((Eq (α := List Value) (gC enF X)
  (gC enF X)) /\ ((Plain (gC enF X)) /\ ((Eq (α := List Value) (gC enF F) (gC enF F)) /\ ((Plain (gC enF F)) /\ True))))))) (((True /\ (True /\ (True /\ True)))) /\ ((true =
  true) /\ ((Eq (α := List Value) (gC enF X) (gC enF X)) /\ ((Plain (gC enF X)) /\ ((Eq (α := List Value) (gC enF F) (gC enF F)) /\ ((Plain (gC enF F)) /\ True)))))))
  (((True /\ (True /\ (True /\ True)))) /\ ((true = true) /\ ((Eq (α := List Value) (gC enF X) (gC enF X)) /\ ((Plain (gC enF X)) /\ ((Eq (α := List Value) (gC enF F) (gC
  enF F)) /\ ((Plain (gC enF F)) /\ True)))))))) := by kernel_rfl
theorem eLgt_ok : EntOk Tryz.prog eLgt := entC_ok (by
  intro a rows p v news h hp
  split at h <;> simp only [Option.some.injEq, Prod.mk.injEq, reduceCtorEq] at h
  obtain ⟨rfl, rfl, rfl⟩ := h
  obtain ⟨⟨l, rfl, rfl⟩, h1, h2⟩ := hp
  simp only [ShR, lgR, dF, List.append_nil] at h2 ⊢
  exact Lg_con l h1 h2)
theorem eRe_ok : EntOk Tryz.prog eRe := entC_ok (by
  intro a rows p v news h hp
  split at h <;> simp only [Option.some.injEq, Prod.mk.injEq, reduceCtorEq] at h
  obtain ⟨rfl, rfl, rfl⟩ := h
  obtain ⟨h1, ⟨⟨X, rfl, rfl⟩, h2⟩, ⟨F, rfl, rfl⟩, h3⟩ := hp
  unfold reQ boQ
  simp only [sealV_eq, gRo, decF_gC]
  exact Re_con ⟨_, L _, L _, L _⟩ ⟨_, _, _, _, _, _, _, _⟩ X F h1 h2 h3)
theorem eRr_ok : EntOk Tryz.prog eRr := entC_ok (by
  intro a rows p v news h hp
  split at h <;> simp only [Option.some.injEq, Prod.mk.injEq, reduceCtorEq] at h
  obtain ⟨rfl, rfl, rfl⟩ := h
  obtain ⟨h1, ⟨⟨X, rfl, rfl⟩, h2⟩, ⟨F, rfl, rfl⟩, h3⟩ := hp
  unfold reQ boQ
  simp only [sealV_eq, gRo, decF_gC]
  exact Rr_con ⟨_, L _, L _, L _⟩ ⟨_, _, _, _, _, _, _, _⟩ X F h1 h2 h3)
theorem eRunsC_ok : EntOk Tryz.prog eRunsC := entC_ok (by
  intro a rows p v news h hp
  split at h <;> simp only [Option.some.injEq, Prod.mk.injEq, reduceCtorEq] at h
  obtain ⟨rfl, rfl, rfl⟩ := h
  exact Go.Proofs.YtkjppedfedaenaaGreatDoor.cr.cm_law)
theorem tCy_ok : ∀ x ∈ tCy, EntOk Tryz.prog x := all_cons eRe_ok (all_cons eRr_ok (all_cons eSm_ok (all_cons eLgt_ok (all_cons eRunsC_ok (all_nil)))))
theorem Cy_law (st : Int) (c t b : ByteArray) (X : List Fl) (p l s : Int) (F : List Fl) (bd : ByteArray) (e r : Bool) (k a : Int)
    (h0 : I64 st) (_ : c.size ≤ 1048576) (_ : t.size ≤ 1048576) (_ : b.size ≤ 1048576) (hX : X.length ≤ 1048576) (sX : ∀ f ∈ X, f.n.length ≤ 1048576 ∧ f.v.length ≤ 1048576) (_ : I64 p) (_ : I64 l) (_ : I64 s) (hF : F.length ≤ 1048576) (sF : ∀ f ∈ F, f.n.length ≤ 1048576 ∧ f.v.length ≤ 1048576) (_ : bd.size ≤ 1048576) (_ : I64 k) (_ : I64 a) :
    Con Tryz.prog 4 [.agg ⟨[.int .i64 st, .string c, .string t, .string b, .slice (some ⟨0, 0, none⟩) X.length 2]⟩, .agg ⟨[.int .i64 p, .int .i64 l, .int .i64 s, .slice (some ⟨1, 0, none⟩) F.length 2, .string bd, .bool e, .bool r, .int .i64 k, .int .i64 a]⟩] [gRo enF X, gRo enF F] (.bool true) [gRo enF X, gRo enF F] := by
  refine con_vc (E := EtCy) mixed (calls_envT tCy_ok) (lok_envT _ _) (M := noM) lm_none (Cy_vc st c t b X p l s F bd e r k a) ?_
  have tkF : ∀ A : List Fl, List.take (A.length * 2) (gC enF A) = gC enF A := fun A => List.take_of_length_le (by rw [fLen]; exact Nat.le_refl _)
  have tkR : ∀ A : List Rw, List.take (A.length * 3) (gC enR A) = gC enR A := fun A => List.take_of_length_le (by rw [gC_len enR_k]; exact Nat.le_refl _)
  simp only [ofNat_eq, toNat_cast, Nat.zero_add, Nat.add_zero, Nat.mul_one, List.drop_zero, bCells_len, bCells_drop, bCells_take, bCells_app, bCells_one, bCells_plain, List.length_replicate, List.length_append, List.length_take, List.length_drop, List.take_length, and_true, true_and, and_self, decide_true, List.length_nil, List.length_cons, Nat.sub_zero, dB_mk, dB_ro, List.take_zero, tkF, tkR, fPl, rPl, fLen, true_and, and_true]
  have iX : IsF ⟨gC enF X, true, .cells true⟩ X.length := ⟨X, rfl, rfl⟩
  have iF : IsF ⟨gC enF F, true, .cells true⟩ F.length := ⟨F, rfl, rfl⟩
  have shX : ShR ⟨gC enF X, true, .cells true⟩ := by unfold ShR; simp only; rw [decF_gC]; exact sX
  have shF : ShR ⟨gC enF F, true, .cells true⟩ := by unfold ShR; simp only; rw [decF_gC]; exact sF
  have hq : reQ st c t ⟨gC enF X, true, .cells true⟩ ⟨gC enF F, true, .cells true⟩ = reU ⟨st, L c, L t, []⟩ F X := by unfold reQ; simp only [sealV_eq, decF_gC]
  have hl : (reU ⟨st, L c, L t, []⟩ F X).length ≤ 9223372036854775807 := by
    unfold reU heU
    simp only [List.length_map, List.length_append]
    split <;> split <;> simp <;> omega
  simp only [hq]
  generalize reU ⟨st, L c, L t, []⟩ F X = Q at hl ⊢
  have eqb : ∀ x : ByteArray, strEq x x = true := fun x => by unfold strEq; simp
  simp only [eqb]
  have hLe : Q.length * 3 ≤ (gC enR Q).length := by rw [gC_len enR_k]; exact Nat.le_refl _
  refine ⟨⟨Nat.le_refl _, iX, hX, shX⟩, ?_⟩
  repeat' first | trivial | refine br_intro (fun _ => ?_) (fun _ => ?_)
  refine ⟨⟨Nat.le_refl _, iF, hF, shF⟩, br_intro (fun _ => trivial) (fun _ => ⟨⟨⟨Nat.le_refl _, Nat.le_refl _⟩, h0, ⟨iX, hX⟩, iF, by omega⟩, ⟨⟨Nat.le_refl _, Nat.le_refl _⟩, h0, ⟨iX, hX⟩, iF, by omega⟩, ⟨hLe, ⟨Q, rfl, rfl⟩, hl⟩, br_b rfl trivial⟩)⟩
end Go.Proofs.YtkjppedfedaenaaGreatDoor.cy
