/- StoreOldest: its loop, and the law. -/
import Derived.Test.YtcjbpmphkmcmjaaSz9
import Derived.Test.YtcjbpmphkmcmjaaRows
import Derived.Test.YtcjbpmphkmcmjaaLsoR
set_option maxRecDepth 20000
set_option linter.unusedSimpArgs false
set_option linter.unusedVariables false
namespace Go.Proofs.Ytcjbpmphkmcmjaa.so
open Go Go.Ev Go.Sy Go.RowKit Go.Proofs.Ytcjbpmphkmcmjaa.gl Go.Proofs.Ytcjbpmphkmcmjaa.tk Go.Proofs.Ytcjbpmphkmcmjaa.cp Go.Proofs.Ytcjbpmphkmcmjaa.ic
structure InvO (g : GOl) (n : Nat) (t : TOl) (ks : List ByteArray) : Prop where
  j1 : t.j ≤ g.l.length
  j2 : t.j ≤ 60
  len : t.s.nd.length ≤ 2 * t.j
  bud : t.s.bud = 109 * (n : Int)
  vw : Vw t.s (ks.map pgE)
  w : t.w = kk ks
  nod : ks.Nodup
  kl : ks.length ≤ n
  one : ∀ B ∈ ks, (L B).length = 1
def PreO (g : GOl) : Prop := 1 ≤ g.n ∧ g.n ≤ 9 ∧ g.l.length ≤ maxLen ∧ ∀ x ∈ g.l, I64 x
def s0 (b : Int) : SS := ⟨b, 0, [], [], 0, -1, -1, []⟩
def t0 (g : GOl) : TOl := ⟨s0 (109 * g.n), [], 0, []⟩
noncomputable def specOl : Sy.Spec := specOf 1 6 114 PreO (fun g => slOl g (t0 g)) (fun g => rlOl g (t0 g)) wsOl
noncomputable def mOl := mOf [(6, pOl, specOl)]
theorem Ol_vc (N : Int) (l : List Int) : mcall EOl mOl 400 6 [.int .i64 N, .slice (some ⟨0, 0, none⟩) l.length 1] ⟨mkR (nums 0 [iRo .i64 l]), 1⟩ (retIs 1 (.bool true) [iRo .i64 l]) =
  let z3 := (List.take (Int.toNat (0 : Int)) (List.drop 0 (List.replicate (Int.toNat (0 : Int)) (Value.int IntKind.u8 (0 : Int))))); let z1 := (inside N (1 : Int) (9 : Int)
  * cosR (ByteArray.mk #[104, 116, 116, 112]) (ByteArray.mk #[97]) (ByteArray.mk #[47]) (ByteArray.mk (List.toArray (List.map bOf z3))) (Row.mk [] true (Ob.cells true))
  (Row.mk [] true (Ob.cells true))); let z2 := ((true = false) /\ ((Eq (α := List Value) (iCells IntKind.i64 l) (iCells IntKind.i64 l)) /\ ((Plain (iCells IntKind.i64 l)) /\
  True))); ((((True /\ (True /\ (True /\ True))) /\ (True /\ (True /\ (I64 N /\ ((-1000000000000 : Int) <= (1 : Int) /\ ((9 : Int) <= (1000000000000 : Int) /\ (1 : Int) <=
  (9 : Int)))))))) /\ ((AllB z3) /\ (((((True /\ (True /\ (True /\ (True /\ (True /\ (True /\ (True /\ (True /\ (True /\ (True /\ (True /\ (True /\ True)))))))))))) /\ True)
  /\ ((True /\ (True /\ True)) /\ (True /\ (TOk (ByteArray.mk #[104, 116, 116, 112]) /\ (TOk (ByteArray.mk #[97]) /\ (TOk (ByteArray.mk #[47]) /\ (TOk (ByteArray.mk
  (List.toArray (List.map bOf z3))) /\ (IsF (Row.mk [] true (Ob.cells true)) 0 /\ (IsF (Row.mk [] true (Ob.cells true)) 0 /\ (FOkR (Row.mk [] true (Ob.cells true)) /\ FOkR
  (Row.mk [] true (Ob.cells true))))))))))))) /\ (br (decide (IntKind.wrap IntKind.i64 z1 < (0 : Int))) z2 (br (decide (IntKind.wrap IntKind.i64 z1 > (16777216 : Int))) z2
  (∃ g : GOl, ((PreO g) /\ ((0 = 0) /\ ((List.length g.1 = List.length l) /\ ((g.2 = inside N (1 : Int) (9 : Int)) /\ ((0 = 0) /\ ((0 = 0) /\ (((↑0 : Int) = (0 : Int)) /\
  ((Eq (α := List Value) (iCells IntKind.i64 g.1) (iCells IntKind.i64 l)) /\ ((Plain (iCells IntKind.i64 g.1)) /\ (((109 : Int) * g.2 = IntKind.wrap IntKind.i64 z1) /\ (((0
  : Int) = (0 : Int)) /\ ((0 = 0) /\ ((0 = 0) /\ (((-1 : Int) = (-1 : Int)) /\ (((-1 : Int) = (-1 : Int)) /\ ((Eq (α := List Value) ([]) ([])) /\ ((Eq (α := List Value) ([])
  ([])) /\ ((Eq (α := List Value) ([]) ([])) /\ ((Plain []) /\ ((Eq (α := List Value) ([]) ([])) /\ (∀ (y : Unit), ((True) → (((True /\ (True /\ (True /\ True)))) /\ ((true
  = true) /\ ((Eq (α := List Value) (iCells IntKind.i64 l) (iCells IntKind.i64 g.1)) /\ ((Plain (iCells IntKind.i64 l)) /\ True)))))))))))))))))))))))))))))))) := by kernel_rfl
theorem fv0 : FV [] := fv_z.1
theorem sTake1 (F : List (List UInt8)) (k : Nat) : List.take k (gC enS F) = gC enS (F.take k) := by
  have := gC_take enS_k F k
  rwa [Nat.mul_one] at this
theorem isF0 : IsF ⟨[], true, .cells true⟩ 0 := ⟨[], rfl, rfl⟩
theorem fvr0 : FVR ⟨[], true, .cells true⟩ := by
  have := fvR [] true (.cells true)
  exact this.mpr fv0
theorem Ol_nx (g : GOl) (n : Nat) (hn1 : 1 ≤ n) (hn9 : n ≤ 9) (hgn : g.n = n) (hg : PreO g) (t : TOl) (ks : List ByteArray) (hI : InvO g n t ks) : mev EOl mOi 200 6 (0 :: pOl) false (codeOf Try.prog 6 (0 :: pOl)) ⟨mkOv (slOl g t), 114, []⟩ none ⟨mkR (rlOl g t), 6⟩ (roundK 1 6 114 (fun t => ∃ ks, InvO g n t ks) (fun t => g.l.length - t.j) (slOl g) (rlOl g) (wsOl g) t) := by
  refine (Ol_round g t _ _).mpr ?_
  obtain ⟨g1, g2, g3, g4⟩ := hg
  obtain ⟨j1, j2, ilen, ibud, ivw, iw, inod, ikl, ione⟩ := hI
  have e1 : ({ data := #[104, 116, 116, 112] } : ByteArray) = htB := rfl
  have e2 : ({ data := #[47] } : ByteArray) = slB := rfl
  have e3 : ({ data := #[71, 69, 84] } : ByteArray) = getB := rfl
  simp only [ofNat_eq, toNat_cast, Nat.zero_add, Nat.add_zero, Nat.mul_one, List.drop_zero, bCells_len, bCells_drop, bCells_take, bCells_app, bCells_one, bCells_plain, List.length_replicate, List.length_append, List.length_take, List.length_drop, List.take_length, and_true, true_and, and_self, decide_true, List.length_nil, List.length_cons, Nat.sub_zero, dB_mk, dB_ro, List.take_zero, nPl, mC_plain, iCells_plain, sPl, sLen, e1, e2, e3]
  refine br_if (fun h1 => br_if (fun h2 => br_dec (by omega) ?_) (fun h2 => ⟨(), trivial⟩)) (fun h1 => ⟨(), trivial⟩)
  have h1 : t.j < g.l.length := by omega
  have h2 : t.j < 60 := by omega
  have hA1 : (L ({ data := { toList := [UInt8.ofNat (IntKind.u8.wrap (IntKind.i64.wrap (97 + inside (cellI (iCells IntKind.i64 g.l) t.j) 0 25))).toNat] } } : ByteArray)).length = 1 := rfl
  generalize ({ data := { toList := [UInt8.ofNat (IntKind.u8.wrap (IntKind.i64.wrap (97 + inside (cellI (iCells IntKind.i64 g.l) t.j) 0 25))).toNat] } } : ByteArray) = A at *
  have e0 : gC enF [] = [] := rfl
  obtain ⟨m1, m2, m3, m4, m5, m6, m7, m8⟩ := ge_mk t.s htB A slB [] true (.cells true)
  obtain ⟨f1, f2, f3, f4, f5, f6, f7, f8, f9, f10, f11, f12, f13, f14, f15⟩ := fe_mk t.s htB A slB [] true (.cells true)
  rw [e0] at *
  simp only [m1, m2, m3, m4, m5, m6, m7, m8, f1, f2, f3, f4, f5, f6, f7, f8, f9, f10, f11, f12, f13, f14, f15, nPl, mC_plain, iCells_plain, fPl]
  clear m1 m2 m3 m4 m5 m6 m7 m8 f1 f2 f3 f4 f5 f6 f7 f8 f9 f10 f11 f12 f13 f14 f15
  have t1 : TOk htB := by unfold TOk; decide
  have t2 : TOk A := by unfold TOk; omega
  have t3 : TOk slB := by unfold TOk; decide
  have t4 : TOk ByteArray.empty := by unfold TOk; decide
  have hK : keyV htB A slB = keyE (pgE A) := rfl
  obtain ⟨v1, v2, v3, v4, v5⟩ := vw_get ivw ⟨.empty, htB, A, slB, 0⟩ [] (by omega)
  simp only [hK] at v1 v2 v3
  simp only [hK]
  obtain ⟨ord, vo, vv⟩ := ivw
  have hpd := pDr_mk t.s ord vo.inv vo.sz
  rw [v1]
  generalize geS t.s ⟨.empty, htB, A, slB, 0⟩ [] = s1 at *
  clear v1 v2
  refine ⟨iCells_at h1, ⟨by rw [iCells_cell h1, List.getD_eq_getElem?_getD, List.getElem?_eq_getElem h1]; exact g4 _ (List.getElem_mem h1), by omega, by omega, by omega⟩, by intro v hv; simp at hv, ⟨t1, t2, t3, isF0⟩, ⟨⟨trivial, trivial, trivial, trivial, trivial⟩, t1, t2, t3, isF0, fvr0, hpd⟩, ?_⟩
  refine ⟨⟨g.l, g.n, s1, t.w, (t.j : Int), A, .empty, L (keyE (pgE A)), ((ks.map pgE).find? (mtV (keyE (pgE A)) [])).isSome, t.x⟩, by simp only; rw [iw]; unfold kk; rw [List.length_map]; omega, ?_⟩
  refine ⟨rfl, rfl, rfl, rfl, rfl, rfl, rfl, rfl, v5, rfl, rfl, rfl, rfl, rfl, rfl, rfl, rfl, rfl, rfl, rfl, fun _ _ => ?_⟩
  simp only
  obtain ⟨m1, m2, m3, m4, m5, m6, m7, m8, m9⟩ := pt_mk s1 (pgE A).x [] [] true true (.cells true) (.cells true)
  rw [show gC enF [] = [] from rfl] at m1 m2 m3 m4 m5 m6 m7 m8 m9
  simp only [pgE] at m1 m2 m3 m4 m5 m6 m7 m8 m9
  simp only [m1, m2, m3, m4, m5, m6, m7, m8, m9, nPl, mC_plain, iCells_plain]
  clear m1 m2 m3 m4 m5 m6 m7 m8 m9
  have hpe : (⟨⟨getB, htB, A, slB, 0, 0, 0, ByteArray.empty, 0, 0⟩, [], []⟩ : En) = pgE A := rfl
  simp only [hpe]
  have hne : ∀ a b : List (List UInt8), a.length ≤ b.length → List.take b.length (gC enS a) = gC enS a := fun a b h => List.take_of_length_le (by rw [sLen]; exact h)
  have hcs : ∀ F : List (List UInt8), Value.string (bs (L (keyE (pgE A)))) :: ([] ++ gC enS F) = gC enS (L (keyE (pgE A)) :: F) := fun F => rfl
  have htk : ∀ (F : List (List UInt8)) (k : Nat), List.take k (gC enS F) = gC enS (F.take k) := fun F k => sTake1 F k
  have hnk : kk (nx ks A n) = (L (keyE (pgE A)) :: kk (ks.filter fun B => decide (B ≠ A))).take n := by unfold nx kk; rw [List.map_take]; rfl
  obtain ⟨x1, x2, x3⟩ := nx_ok A ks n inod ione hA1
  have hfl : (kk (ks.filter fun B => decide (B ≠ A))).length ≤ 9 := by
    unfold kk; rw [List.length_map]
    exact Nat.le_trans (List.length_filter_le _ _) (by omega)
  by_cases hin : A ∈ ks
  · rw [iw, was_in A ks hin, find_in A ks hin, fl_pg]
    refine br_nb rfl (br_nb rfl ?_)
    have hv2 : Vw s1 ((nx ks A n).map pgE) := by rw [← step_in A ks n inod ikl hin]; exact v3
    have hv3 := hv2
    obtain ⟨o2, w2, z2⟩ := hv2
    have hpd2 := pDr_mk s1 o2 w2.inv w2.sz
    obtain ⟨n1, n2⟩ := ky_mk w2.inv w2.sz
    have n3 : kyL s1 o2 = kk (nx ks A n) := by rw [vw_keys w2, z2, List.map_map]; rfl
    rw [n3] at n1 n2
    have hfin : ∀ w x, w = kk (nx ks A n) → InvO g n ⟨s1, w, t.j + 1, x⟩ (nx ks A n) := fun w x hw => ⟨by simp only; omega, by simp only; omega, by simp only; omega, by simp only; omega, hv3, hw, x1, x2, x3⟩
    simp only [n1, n2, hpd2, hcs, hgn, sPl, hne _ _ (Nat.le_refl _), true_and, and_true]
    rw [hnk] at *
    generalize kk (ks.filter fun B => decide (B ≠ A)) = F at *
    simp only [htk, sPl, sLen, Int.toNat_natCast]
    generalize L (keyE (pgE A)) = K at *
    refine br_dec (Nat.le_refl _) (br_b (sOne _) (br_dec (by omega) (br_if (fun q => br_dec (by omega) ?_) (fun q => ?_))))
    · have hwl : (List.take n (K :: F)).length = n := by rw [List.length_take, List.length_cons]; omega
      refine ⟨⟨⟨Nat.le_refl _, by omega, trivial⟩, isS_mk _ _ rfl, isS_mk _ _ hwl.symm, by omega⟩, ?_⟩
      rw [Go.Proofs.Ytcjbpmphkmcmjaa.sb.sameR_gC, decide_eq_true rfl]
      refine br_nb rfl ⟨⟨s1, (K :: F).take n, t.j + 1, (K :: F).drop n⟩, ⟨_, hfin _ _ rfl⟩, by simp only; omega, hwl, (i64_succ (by omega)).symm, rfl, rfl, rfl, rfl, rfl, rfl, rfl, rfl, rfl, ?_⟩
      simp only [List.take_append_drop]
    · have hwa : List.take n (K :: F) = K :: F := List.take_of_length_le (by rw [List.length_cons]; omega)
      have hwb : List.take (1 + F.length) (K :: F) = K :: F := List.take_of_length_le (by rw [List.length_cons]; omega)
      rw [hwa] at hfin
      simp only [hwa, hwb]
      refine ⟨⟨⟨Nat.le_refl _, by omega, trivial⟩, isS_mk _ _ rfl, isS_mk _ _ (by rw [List.length_cons]; omega), by rw [List.length_cons]; omega⟩, ?_⟩
      rw [Go.Proofs.Ytcjbpmphkmcmjaa.sb.sameR_gC, decide_eq_true rfl]
      refine br_nb rfl ⟨⟨s1, K :: F, t.j + 1, []⟩, ⟨_, hfin _ _ rfl⟩, by simp only; omega, by simp only [List.length_cons]; omega, (i64_succ (by omega)).symm, rfl, rfl, rfl, rfl, rfl, rfl, rfl, rfl, rfl, ?_⟩
      simp only [List.append_nil]
  · rw [iw, was_no A ks hin, find_no A ks hin, fl_pg]
    refine br_nb rfl (br_b rfl ?_)
    obtain ⟨u1, u2⟩ := step_no A ks n hn1 ione hA1 hin
    have hEOk : EOk (pgE A) := ⟨t1, t2, t3, t4, fv0, fv0⟩
    obtain ⟨w1, w0, wb⟩ := vw_put v3 (pgE A) hEOk (by omega)
    have hb : s1.bud = 109 * (n : Int) := by rw [v5, ibud]
    have hpu : puB s1 (pgE A) = true := by unfold puB; rw [cos_pg A hA1, hb]; exact decide_eq_true (by omega)
    have hv2 : Vw (puS s1 (pgE A)) ((nx ks A n).map pgE) := by rw [← u2, ← u1, ← hb]; exact w1
    have hpd1 : PDr s1.bud s1.siz s1.nw s1.ol s1.fn s1.nd.length ⟨gC ndC s1.nd, false, .cells true⟩ ⟨iCells .i64 s1.fr, false, .cells true⟩ ⟨mC s1.m, false, .map true⟩ := by
      obtain ⟨o1, q1, _⟩ := v3
      exact pDr_mk s1 o1 q1.inv q1.sz
    have hEc := hpd1
    have hv3 := hv2
    obtain ⟨o2, w2, z2⟩ := hv2
    have hpd2 := pDr_mk (puS s1 (pgE A)) o2 w2.inv w2.sz
    obtain ⟨n1, n2⟩ := ky_mk w2.inv w2.sz
    have n3 : kyL (puS s1 (pgE A)) o2 = kk (nx ks A n) := by rw [vw_keys w2, z2, List.map_map]; rfl
    rw [n3] at n1 n2
    have hfin : ∀ w x, w = kk (nx ks A n) → InvO g n ⟨(puS s1 (pgE A)), w, t.j + 1, x⟩ (nx ks A n) := fun w x hw => ⟨by simp only; omega, by simp only; omega, by simp only; omega, by simp only; omega, hv3, hw, x1, x2, x3⟩
    rw [wb] at n1 n2 hpd2
    rw [hpu]
    refine ⟨⟨⟨trivial, trivial, trivial⟩, t1, t2, t3, t4, isF0, isF0, fvr0, fvr0, by omega, hpd1⟩, br_nb rfl ?_⟩
    generalize puS s1 (pgE A) = s2 at *
    simp only [n1, n2, hpd2, hcs, hgn, sPl, hne _ _ (Nat.le_refl _), true_and, and_true]
    rw [hnk] at *
    generalize kk (ks.filter fun B => decide (B ≠ A)) = F at *
    simp only [htk, sPl, sLen, Int.toNat_natCast]
    generalize L (keyE (pgE A)) = K at *
    refine br_dec (Nat.le_refl _) (br_b (sOne _) (br_dec (by omega) (br_if (fun q => br_dec (by omega) ?_) (fun q => ?_))))
    · have hwl : (List.take n (K :: F)).length = n := by rw [List.length_take, List.length_cons]; omega
      refine ⟨⟨⟨Nat.le_refl _, by omega, trivial⟩, isS_mk _ _ rfl, isS_mk _ _ hwl.symm, by omega⟩, ?_⟩
      rw [Go.Proofs.Ytcjbpmphkmcmjaa.sb.sameR_gC, decide_eq_true rfl]
      refine br_nb rfl ⟨⟨s2, (K :: F).take n, t.j + 1, (K :: F).drop n⟩, ⟨_, hfin _ _ rfl⟩, by simp only; omega, hwl, (i64_succ (by omega)).symm, wb, rfl, rfl, rfl, rfl, rfl, rfl, rfl, rfl, ?_⟩
      simp only [List.take_append_drop]
    · have hwa : List.take n (K :: F) = K :: F := List.take_of_length_le (by rw [List.length_cons]; omega)
      have hwb : List.take (1 + F.length) (K :: F) = K :: F := List.take_of_length_le (by rw [List.length_cons]; omega)
      rw [hwa] at hfin
      simp only [hwa, hwb]
      refine ⟨⟨⟨Nat.le_refl _, by omega, trivial⟩, isS_mk _ _ rfl, isS_mk _ _ (by rw [List.length_cons]; omega), by rw [List.length_cons]; omega⟩, ?_⟩
      rw [Go.Proofs.Ytcjbpmphkmcmjaa.sb.sameR_gC, decide_eq_true rfl]
      refine br_nb rfl ⟨⟨s2, K :: F, t.j + 1, []⟩, ⟨_, hfin _ _ rfl⟩, by simp only; omega, by simp only [List.length_cons]; omega, (i64_succ (by omega)).symm, wb, rfl, rfl, rfl, rfl, rfl, rfl, rfl, rfl, ?_⟩
      simp only [List.append_nil]
theorem vw0 (b : Int) : Vw (s0 b) [] := by
  have hg : ∀ i, gN ([] : List Nd) i = ndZ := fun i => rfl
  refine ⟨[], ⟨⟨List.nodup_nil, by simp, Nat.zero_le _, by simp [s0], by simp [s0], rfl, trivial, rfl, rfl, rfl, by simp [s0], fun _ => rfl⟩, ⟨Nat.zero_le _, fun i => ?_, by simp⟩, by simp⟩, rfl⟩
  show FV (gN [] i).e ∧ _
  exact fv_z
theorem Ol_piece : PieceOk EOl 1 (6, pOl, specOl) := by
  refine piece_loop mixed (calls_envT tOl_ok) (lok_envT _ _) (lm_one Oi_piece) (n := 200) (by kernel_rfl) t0 (fun g t => ∃ ks, InvO g g.n.toNat t ks) (fun g t => g.l.length - t.j) (sl := slOl) (rl := rlOl) (fun g hg => ⟨[], ?_⟩) (fun g t hg hi => ?_)
  · obtain ⟨g1, g2, g3, g4⟩ := hg
    exact ⟨Nat.zero_le _, Nat.zero_le _, Nat.zero_le _, by show 109 * g.n = _; omega, vw0 _, rfl, List.nodup_nil, Nat.zero_le _, by simp⟩
  · obtain ⟨ks, hI⟩ := hi
    have hg' := hg
    obtain ⟨g1, g2, g3, g4⟩ := hg
    exact Ol_nx g g.n.toNat (by omega) (by omega) (by omega) hg' t ks hI
theorem so_law (N : Int) (l : List Int) (hN : I64 N) (hl : l.length ≤ maxLen) (hx : ∀ x ∈ l, I64 x) : Con Try.prog 6 [.int .i64 N, .slice (some ⟨0, 0, none⟩) l.length 1] [iRo .i64 l] (.bool true) [iRo .i64 l] := by
  refine con_vc (E := EOl) mixed (calls_envT tOl_ok) (lok_envT _ _) (M := mOl) (lm_one Ol_piece) (Ol_vc N l) ?_
  obtain ⟨i1, i2⟩ := inside_in N 1 9 (by omega)
  have e1 : ({ data := #[104, 116, 116, 112] } : ByteArray) = htB := rfl
  have e2 : ({ data := #[47] } : ByteArray) = slB := rfl
  have e3 : ({ data := #[71, 69, 84] } : ByteArray) = getB := rfl
  have e4 : ({ data := (List.map bOf (List.take (Int.toNat 0) (List.replicate (Int.toNat 0) (Value.int IntKind.u8 0)))).toArray } : ByteArray) = ByteArray.empty := rfl
  have hA1 : (L ({ data := #[97] } : ByteArray)).length = 1 := rfl
  generalize hA : ({ data := #[97] } : ByteArray) = A at *
  have hc : cosR htB A slB ByteArray.empty ⟨[], true, .cells true⟩ ⟨[], true, .cells true⟩ = 109 := (z_cos htB A slB .empty [] [] true true (.cells true) (.cells true)).trans (cos_pg A hA1)
  simp only [ofNat_eq, toNat_cast, Nat.zero_add, Nat.add_zero, Nat.mul_one, List.drop_zero, bCells_len, bCells_drop, bCells_take, bCells_app, bCells_one, bCells_plain, List.length_replicate, List.length_append, List.length_take, List.length_drop, List.take_length, and_true, true_and, and_self, decide_true, List.length_nil, List.length_cons, Nat.sub_zero, dB_mk, dB_ro, List.take_zero, iCells_plain, e1, e2, e3, e4, hA, hc]
  have hw : IntKind.i64.wrap (inside N 1 9 * 109) = 109 * inside N 1 9 := by rw [wr64_id (by unfold I64; omega)]; omega
  rw [hw]
  have t1 : TOk htB := by unfold TOk; decide
  have t3 : TOk slB := by unfold TOk; decide
  have t4 : TOk ByteArray.empty := by unfold TOk; decide
  refine ⟨⟨hN, by omega, by omega, by omega⟩, by intro v hv; simp at hv, ⟨t1, by unfold TOk; omega, t3, t4, isF0, isF0, ?_⟩, br_nb (by simp; omega) (br_nb (by simp; omega) ?_)⟩
  · exact (fokR [] true (.cells true)).mpr fv0.1
  · exact ⟨⟨l, inside N 1 9, 0⟩, ⟨i1, i2, hl, hx⟩, rfl, rfl, rfl, rfl, (fun v hv => by cases hv), fun _ _ => rfl⟩
theorem so_law2 (N : Int) (l : List Int) (hN : I64 N) (hl : l.length ≤ maxLen) (hx : ∀ x ∈ l, (Lit.int .i64 x).wf = true) : Con Try.prog 6 [.int .i64 N, .slice (some ⟨0, 0, none⟩) l.length 1] [iRo .i64 l] (.bool true) [iRo .i64 l] := so_law N l hN hl fun x h => wf64 (hx x h)
end Go.Proofs.Ytcjbpmphkmcmjaa.so
