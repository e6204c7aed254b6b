/- The store: Get, Peek, Keys. -/
import Derived.Test.YtcjbpmphkmcmjaaSz9
import Derived.Test.YtcjbpmphkmcmjaaRows
import Derived.Test.YtcjbpmphkmcmjaaLsoL
set_option maxRecDepth 20000
set_option linter.unusedSimpArgs false
set_option linter.unusedVariables false
namespace Go.Proofs.Ytcjbpmphkmcmjaa.so
open Go Go.Ev Go.Sy Go.RowKit Go.Proofs.Ytcjbpmphkmcmjaa.gl Go.Proofs.Ytcjbpmphkmcmjaa.tk Go.Proofs.Ytcjbpmphkmcmjaa.cp Go.Proofs.Ytcjbpmphkmcmjaa.ic
structure GKy where
  s : SS
  o : List Nat
def pKy : List Nat := [0, 1, 0, 1, 1]
def kyL (s : SS) (o : List Nat) : List (List UInt8) := o.map fun i => L (gN s.nd i).key
def slKy (g : GKy) (j : Nat) : List (Nat × Value) := [(0, .pointer (some ⟨0, 0, none⟩)), (3, .slice (some ⟨4, 0, none⟩) (kyL g.s (g.o.take j)).length 1), (4, .int .i64 (hdQ (g.o.drop j) (-1)))]
noncomputable def rlKy (g : GKy) (j : Nat) : List (Nat × Row) := rwS g.s ++ [(4, gOwn enS (kyL g.s (g.o.take j)))]
noncomputable def wsKy (g : GKy) : List (Gate Unit) := [⟨.exit 0, fun _ => True, fun _ => [(3, .slice (some ⟨4, 0, none⟩) (kyL g.s g.o).length 1)], fun _ => rwS g.s ++ [(4, gOwn enS (kyL g.s g.o))], 5⟩]
noncomputable def specKy : Sy.Spec := specOf 4 5 31 (fun g : GKy => SInv g.s g.o ∧ Sz g.s g.o) (fun g => slKy g 0) (fun g => rlKy g 0) wsKy
noncomputable def mKy := mOf [(14, pKy, specKy)]
theorem Ky_round (g : GKy) (j : Nat) (Inv : Nat → Prop) (m : Nat → Nat) : mev ERm noM 100 14 (0 :: pKy) false (codeOf Try.prog 14 (0 :: pKy)) ⟨mkOv (slKy g j), 31, []⟩ none ⟨mkR (rlKy g j), 5⟩ (roundK 4 5 31 Inv m (slKy g) (rlKy g) (wsKy g) j) =
  let z1 := (decide ((0 : Int) <= hdQ (List.drop j g.2) (-1 : Int) /\ hdQ (List.drop j g.2) (-1 : Int) < (↑(List.length g.1.3) : Int))); let z2 := (cellS (gC ndC g.1.3) (0 +
  Int.toNat (hdQ (List.drop j g.2) (-1 : Int)) * 16 + 12)); let z3 := (Eq (α := List Value) (iCells IntKind.i64 g.1.4) (iCells IntKind.i64 g.1.4)); let z4 := (0 + Int.toNat
  (hdQ (List.drop j g.2) (-1 : Int)) * 16 + 15); let z5 := (Eq (α := List Value) (gC ndC g.1.3) (gC ndC g.1.3)); (br (hdQ (List.drop j g.2) (-1 : Int) != (-1 : Int)) (br z1
  ((Eq (α := Option Value) ((gC ndC g.1.3)[0 + Int.toNat (hdQ (List.drop j g.2) (-1 : Int)) * 16 + 12]?) (some (Value.string z2))) /\ (br (decide (List.length (kyL (GKy.s g)
  (List.take j g.2)) + 1 <= 16777216)) (br (decide (0 + List.length (kyL (GKy.s g) (List.take j g.2)) * 1 <= List.length (gC enS (kyL (GKy.s g) (List.take j g.2))))) (br z1
  ((Eq (α := Option Value) ((gC ndC g.1.3)[0 + Int.toNat (hdQ (List.drop j g.2) (-1 : Int)) * 16 + 15]?) (some (Value.int IntKind.i64 (cellI (gC ndC g.1.3) z4)))) /\ (∃ j2 :
  Nat, ((Inv j2) /\ ((m j2 < m j) /\ ((0 = 0) /\ ((0 = 0) /\ ((List.length (kyL (GKy.s g) (List.take j2 g.2)) = List.length (kyL (GKy.s g) (List.take j g.2)) + 1) /\ ((hdQ
  (List.drop j2 g.2) (-1 : Int) = cellI (gC ndC g.1.3) z4) /\ ((g.1.1 = g.1.1) /\ ((g.1.2 = g.1.2) /\ ((0 = 0) /\ ((List.length g.1.3 = List.length g.1.3) /\ ((0 = 0) /\
  ((g.1.5 = g.1.5) /\ ((g.1.6 = g.1.6) /\ ((g.1.7 = g.1.7) /\ (z5 /\ ((Plain (gC ndC g.1.3)) /\ (z3 /\ ((Plain (iCells IntKind.i64 g.1.4)) /\ ((Eq (α := List Value) (mC
  g.1.8) (mC g.1.8)) /\ ((Plain (mC g.1.8)) /\ ((Eq (α := List Value) (gC enS (kyL (GKy.s g) (List.take j2 g.2))) (List.take (List.length (kyL (GKy.s g) (List.take j g.2)) *
  1) (List.drop 0 (gC enS (kyL (GKy.s g) (List.take j g.2)))) ++ [Value.string z2])) /\ ((Plain (gC enS (kyL (GKy.s g) (List.take j2 g.2)))) /\ True))))))))))))))))))))))))
  False) False) False)) False) (∃ y : Unit, ((True) /\ ((0 = 0) /\ ((List.length (kyL (GKy.s g) g.2) = List.length (kyL (GKy.s g) (List.take j g.2))) /\ ((g.1.1 = g.1.1) /\
  ((g.1.2 = g.1.2) /\ ((0 = 0) /\ ((List.length g.1.3 = List.length g.1.3) /\ ((0 = 0) /\ ((g.1.5 = g.1.5) /\ ((g.1.6 = g.1.6) /\ ((g.1.7 = g.1.7) /\ (z5 /\ ((Plain (gC ndC
  g.1.3)) /\ (z3 /\ ((Plain (iCells IntKind.i64 g.1.4)) /\ ((Eq (α := List Value) (mC g.1.8) (mC g.1.8)) /\ ((Plain (mC g.1.8)) /\ ((Eq (α := List Value) (gC enS (kyL (GKy.s
  g) g.2)) (gC enS (kyL (GKy.s g) (List.take j g.2)))) /\ ((Plain (gC enS (kyL (GKy.s g) g.2))) /\ True))))))))))))))))))))) := by kernel_rfl
theorem Ky_vc (s : SS) (k : List (List UInt8)) : mcall ERm mKy 100 14 [.pointer (some ⟨0, 0, none⟩)] ⟨mkR (nums 0 [ssR s 1 2 3, gOwn ndC s.nd, iOwn .i64 s.fr, mpR s.m]), 4⟩ (retIsM 4 (.slice (some ⟨4, 0, none⟩) k.length 1) 5 (rwS s ++ [(4, gOwn enS k)])) =
  (∃ g : GKy, ((SInv (GKy.s g) g.2 /\ Sz (GKy.s g) g.2) /\ ((0 = 0) /\ ((0 = 0) /\ ((hdQ (List.drop 0 g.2) (-1 : Int) = s.6) /\ ((g.1.1 = s.1) /\ ((g.1.2 = s.2) /\ ((0 = 0)
  /\ ((List.length g.1.3 = List.length s.3) /\ ((0 = 0) /\ ((g.1.5 = s.5) /\ ((g.1.6 = s.6) /\ ((g.1.7 = s.7) /\ ((Eq (α := List Value) (gC ndC g.1.3) (gC ndC s.3)) /\
  ((Plain (gC ndC g.1.3)) /\ ((Eq (α := List Value) (iCells IntKind.i64 g.1.4) (iCells IntKind.i64 s.4)) /\ ((Plain (iCells IntKind.i64 g.1.4)) /\ ((Eq (α := List Value) (mC
  g.1.8) (mC s.8)) /\ ((Plain (mC g.1.8)) /\ ((Eq (α := List Value) ([]) ([])) /\ (∀ (y : Unit), ((True) → ((0 = 0) /\ ((List.length k = List.length (kyL (GKy.s g) g.2)) /\
  ((s.1 = g.1.1) /\ ((s.2 = g.1.2) /\ ((0 = 0) /\ ((List.length s.3 = List.length g.1.3) /\ ((0 = 0) /\ ((s.5 = g.1.5) /\ ((s.6 = g.1.6) /\ ((s.7 = g.1.7) /\ ((Eq (α := List
  Value) (gC ndC s.3) (gC ndC g.1.3)) /\ ((Plain (gC ndC s.3)) /\ ((Eq (α := List Value) (iCells IntKind.i64 s.4) (iCells IntKind.i64 g.1.4)) /\ ((Plain (iCells IntKind.i64
  s.4)) /\ ((Eq (α := List Value) (mC s.8) (mC g.1.8)) /\ ((Plain (mC s.8)) /\ ((Eq (α := List Value) (gC enS k) (gC enS (kyL (GKy.s g) g.2))) /\ ((Plain (gC enS k)) /\
  True)))))))))))))))))))))))))))))))))))))))) := by kernel_rfl
theorem kyL_snoc (s : SS) (o : List Nat) (j : Nat) (h : j < o.length) : kyL s (o.take (j + 1)) = kyL s (o.take j) ++ [L (gN s.nd o[j]).key] := by
  unfold kyL; rw [List.take_succ_eq_append_getElem h, List.map_append]; rfl
theorem Ky_piece : PieceOk ERm 4 (14, pKy, specKy) := by
  refine piece_loop mixed (calls_envT all_nil) (lok_envT _ _) lm_none (n := 100) (by kernel_rfl) (fun _ : GKy => (0 : Nat)) (fun g j => j ≤ g.o.length) (fun g j => g.o.length - j) (sl := slKy) (rl := rlKy) (fun g hg => Nat.zero_le _) (fun g j hg hj => ?_)
  refine (Ky_round g j _ _).mpr ?_
  obtain ⟨s, o⟩ := g
  obtain ⟨h, hz⟩ := hg
  simp only at h hz hj
  simp only [ofNat_eq, toNat_cast, Nat.zero_add, Nat.add_zero, Nat.mul_one, List.drop_zero, bCells_len, bCells_drop, bCells_take, bCells_app, bCells_one, bCells_plain, List.length_replicate, List.length_append, List.length_take, List.length_drop, List.take_length, and_true, true_and, and_self, decide_true, List.length_nil, List.length_cons, Nat.sub_zero, dB_mk, dB_ro, List.take_zero, nPl, mC_plain, iCells_plain, sPl, sLen, Nat.le_refl]
  by_cases hlt : j < o.length
  · have hd : o.drop j = o[j] :: o.drop (j + 1) := List.drop_eq_getElem_cons hlt
    have hh : hdQ (o.drop j) (-1) = ((o[j] : Nat) : Int) := by rw [hd]; rfl
    have hin : o[j] ∈ o := List.getElem_mem hlt
    have hx2 := h.lt _ hin
    obtain ⟨a0, a1, a2, a3, a4, a5, a6, a7, a8, a9, a10, a11, a12, a13, a14, a15⟩ := nGetA s.nd o[j] hx2
    obtain ⟨b0, b1, b2, b3, b4, b4o, b4n, b5, b6, b7, b7o, b7n, b8, b9, b10, b11, b12, b13, b14, b15⟩ := nGetB s.nd o[j] hx2
    have hol : (gN s.nd o[j]).ol = hdQ (o.drop (j + 1)) (-1) := by
      have hdl := h.dl
      rw [← List.take_append_drop j o, hd] at hdl
      exact ((DL_app _ _ _ _ _).1 hdl).2.2.1
    have hkl : (kyL s (o.take j)).length ≤ 1000 := by
      unfold kyL; rw [List.length_map]
      have := h.cnt; have := hz.len
      exact Nat.le_trans (List.length_take_le _ _) (by omega)
    have hsn := kyL_snoc s o j hlt
    rw [hh, Int.toNat_natCast]
    simp only [a12, a15, b12, b15, true_and]
    refine br_b (by simp) (br_dec (by omega) (br_dec (by omega) (br_dec (by omega) ⟨j + 1, by omega, by omega, ?_, hol.symm, ?_⟩)))
    · rw [hsn, List.length_append]; rfl
    · rw [hsn, ← gC_app]
      generalize kyL s (o.take j) = F
      rw [List.take_of_length_le (by rw [sLen]; exact Nat.le_refl _)]
      rfl
  · have he : j = o.length := by omega
    have hd : o.drop j = [] := List.drop_eq_nil_of_le (by omega)
    rw [hd, List.take_of_length_le (by omega)]
    exact br_nb rfl ⟨(), rfl, rfl⟩
theorem Ky_con (s : SS) (ord : List Nat) (h : SInv s ord) (hz : Sz s ord) : ConM Try.prog 14 [.pointer (some ⟨0, 0, none⟩)] [ssR s 1 2 3, gOwn ndC s.nd, iOwn .i64 s.fr, mpR s.m] (.slice (some ⟨4, 0, none⟩) (kyL s ord).length 1) 5 (rwS s ++ [(4, gOwn enS (kyL s ord))]) := by
  refine conM_vc (E := ERm) mixed (calls_envT all_nil) (lok_envT _ _) (M := mKy) (lm_one Ky_piece) (Ky_vc s _) ?_
  simp only [ofNat_eq, toNat_cast, Nat.zero_add, Nat.add_zero, Nat.mul_one, List.drop_zero, bCells_len, bCells_drop, bCells_take, bCells_app, bCells_one, bCells_plain, List.length_replicate, List.length_append, List.length_take, List.length_drop, List.take_length, and_true, true_and, and_self, decide_true, List.length_nil, List.length_cons, Nat.sub_zero, dB_mk, dB_ro, List.take_zero, nPl, mC_plain, iCells_plain, sPl]
  refine ⟨⟨s, ord⟩, ⟨h, hz⟩, h.nw.symm, rfl, rfl, rfl, rfl, rfl, rfl, rfl, rfl, rfl, fun _ _ => ⟨rfl, rfl, rfl, rfl, rfl, rfl, rfl, rfl, rfl, rfl, rfl⟩⟩
end Go.Proofs.Ytcjbpmphkmcmjaa.so
