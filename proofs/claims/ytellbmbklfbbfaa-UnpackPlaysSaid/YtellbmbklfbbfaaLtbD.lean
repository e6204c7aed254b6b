/- The dynamic table: its size changed; what is known of its calls. -/
import Derived.Test.YtellbmbklfbbfaaSz9
import Derived.Test.YtellbmbklfbbfaaRows
import Derived.Test.YtellbmbklfbbfaaLtbB
set_option maxRecDepth 20000
set_option linter.unusedSimpArgs false
set_option linter.unusedVariables false
namespace Go.Proofs.Ytellbmbklfbbfaa.tb
open Go Go.Ev Go.Sy Go.RowKit Go.Proofs.Ytellbmbklfbbfaa.gl Go.Proofs.Ytellbmbklfbbfaa.tk
def rsT (t : Tb) (n : Int) : Tb := if n < 0 ∨ n > 65536 then t else ⟨t.l.take (kpN t.l n t.l.length), t.l.drop (kpN t.l n t.l.length) ++ t.j, n⟩
def rsE (n : Int) : Int := if n < 0 ∨ n > 65536 then 1 else 0
def rowT (r : Row) (n : Nat) (m : Int) : Tb := ⟨(decF r.cells).take n, (decF r.cells).drop n, m⟩
theorem lf_ex (t : List Value) : ∃ v, v = t := ⟨t, rfl⟩
theorem in_ex (t : Int) : ∃ v, v = t := ⟨t, rfl⟩
noncomputable def adN (r : Row) (n : Nat) (m : Int) (a b : ByteArray) : Nat := Classical.choose (nat_ex0 (addT (rowT r n m) ⟨L a, L b⟩).l.length)
noncomputable def adS (r : Row) (n : Nat) (m : Int) (a b : ByteArray) : Int := Classical.choose (in_ex (smN (addT (rowT r n m) ⟨L a, L b⟩).l : Nat))
noncomputable def adC (r : Row) (n : Nat) (m : Int) (a b : ByteArray) : List Value := Classical.choose (lf_ex (gC enF ((addT (rowT r n m) ⟨L a, L b⟩).l ++ (addT (rowT r n m) ⟨L a, L b⟩).j)))
noncomputable def rsN (r : Row) (n : Nat) (m k : Int) : Nat := Classical.choose (nat_ex0 (rsT (rowT r n m) k).l.length)
noncomputable def rsS (r : Row) (n : Nat) (m k : Int) : Int := Classical.choose (in_ex (smN (rsT (rowT r n m) k).l : Nat))
noncomputable def rsC (r : Row) (n : Nat) (m k : Int) : List Value := Classical.choose (lf_ex (gC enF ((rsT (rowT r n m) k).l ++ (rsT (rowT r n m) k).j)))
noncomputable def rsM (m k : Int) : Int := Classical.choose (in_ex (if k < 0 ∨ k > 65536 then m else k))
noncomputable def rsZ (k : Int) : Int := Classical.choose (in_ex (rsE k))
def IsTb (r : Row) (n : Nat) (s : Int) : Prop := ∃ l j : List Fl, r = gOwn enF (l ++ j) ∧ n = l.length ∧ s = (smN l : Nat) ∧ l.length ≤ 16777215 ∧ smN l ≤ 500000000
noncomputable def eAddT : EntM := (35, fun a r => match a, r with
  | [.pointer (some ⟨0, 0, none⟩), .agg ⟨[.string x, .string y]⟩], [⟨[.slice (some ⟨1, 0, none⟩) n 2, .int .i64 s, .int .i64 m], false, .cells false⟩, r1] =>
    some (IsTb r1 n s ∧ fbZ x y ≤ 100000000 ∧ 0 ≤ m ∧ m ≤ 100000000, .tuple #[], 3, [(0, ⟨[.slice (some ⟨2, 0, none⟩) (adN r1 n m x y) 2, .int .i64 (adS r1 n m x y), .int .i64 m], false, .cells false⟩), (2, ⟨adC r1 n m x y, false, .cells true⟩)])
  | _, _ => none)
noncomputable def eResT : EntM := (47, fun a r => match a, r with
  | [.pointer (some ⟨0, 0, none⟩), .int .i64 k], [⟨[.slice (some ⟨1, 0, none⟩) n 2, .int .i64 s, .int .i64 m], false, .cells false⟩, r1] =>
    some (IsTb r1 n s, .int .i64 (rsZ k), 3, [(0, ⟨[.slice (some ⟨2, 0, none⟩) (rsN r1 n m k) 2, .int .i64 (rsS r1 n m k), .int .i64 (rsM m k)], false, .cells false⟩), (2, ⟨rsC r1 n m k, false, .cells true⟩)])
  | _, _ => none)
theorem Rs_vc (t u : Tb) (n e : Int) : mcall EtAd noM 60 47 [.pointer (some ⟨0, 0, none⟩), .int .i64 n] ⟨mkR (nums 0 [tbC t t.l.length 1, gOwn enF (t.l ++ t.j)]), 2⟩ (retIsM 2 (.int .i64 e) 3 [(0, tbC u u.l.length 2), (2, gOwn enF (u.l ++ u.j))]) =
  (br (decide (n < (0 : Int))) ((e = (1 : Int)) /\ ((0 = 0) /\ ((List.length u.1 = List.length t.1) /\ (((↑(smZ u.1 (List.length u.1)) : Int) = (↑(smZ t.1 (List.length t.1))
  : Int)) /\ ((u.3 = t.3) /\ ((Eq (α := List Value) (gC enF (u.1 ++ u.2)) (gC enF (t.1 ++ t.2))) /\ ((Plain (gC enF (u.1 ++ u.2))) /\ True))))))) (br (decide (n > (65536 :
  Int))) ((e = (1 : Int)) /\ ((0 = 0) /\ ((List.length u.1 = List.length t.1) /\ (((↑(smZ u.1 (List.length u.1)) : Int) = (↑(smZ t.1 (List.length t.1)) : Int)) /\ ((u.3 =
  t.3) /\ ((Eq (α := List Value) (gC enF (u.1 ++ u.2)) (gC enF (t.1 ++ t.2))) /\ ((Plain (gC enF (u.1 ++ u.2))) /\ True))))))) ((((True /\ (True /\ True)) /\ (((True /\
  (True /\ (True /\ True))) /\ (Plain (gC enF (t.1 ++ t.2)) /\ True)) /\ ((Plain (gC enF (t.1 ++ t.2)) /\ True) /\ IsT (Row.mk (gC enF (t.1 ++ t.2)) false (Ob.cells true))
  (List.length t.1) (↑(smZ t.1 (List.length t.1)) : Int))))) /\ ((e = (0 : Int)) /\ ((0 = 0) /\ ((List.length u.1 = shN (Row.mk (gC enF (t.1 ++ t.2)) false (Ob.cells true))
  (List.length t.1) n) /\ (((↑(smZ u.1 (List.length u.1)) : Int) = (↑(shM (Row.mk (gC enF (t.1 ++ t.2)) false (Ob.cells true)) (List.length t.1) n) : Int)) /\ ((u.3 = n) /\
  ((Eq (α := List Value) (gC enF (u.1 ++ u.2)) (gC enF (t.1 ++ t.2))) /\ ((Plain (gC enF (u.1 ++ u.2))) /\ True)))))))))) := by kernel_rfl
theorem Rs_con (t : Tb) (n : Int) (h1 : t.l.length ≤ 16777216) (h2 : smN t.l ≤ 1000000000) : ConM Try.prog 47 [.pointer (some ⟨0, 0, none⟩), .int .i64 n] [tbC t t.l.length 1, gOwn enF (t.l ++ t.j)] (.int .i64 (rsE n)) 3 [(0, tbC (rsT t n) (rsT t n).l.length 2), (2, gOwn enF ((rsT t n).l ++ (rsT t n).j))] := by
  refine conM_vc (E := EtAd) mixed (calls_envT tAd_ok) (lok_envT _ _) (M := noM) lm_none (Rs_vc t _ n _) ?_
  obtain ⟨s1, s2⟩ := sh_mk t.l t.j n
  have hk := kpN_le t.l n t.l.length
  unfold gOwn at s1 s2
  have one : ∀ l : List Fl, smN (l.take l.length) = smN l := fun l => by rw [List.take_length]
  simp only [ofNat_eq, toNat_cast, Nat.zero_add, Nat.add_zero, Nat.mul_one, List.drop_zero, bCells_len, bCells_drop, bCells_take, bCells_app, bCells_one, bCells_plain, List.length_replicate, List.length_append, List.length_take, List.length_drop, List.take_length, and_true, true_and, and_self, decide_true, List.length_nil, List.length_cons, Nat.sub_zero, dB_mk, dB_ro, List.take_zero, z_smZ, s1, s2, one]
  have bad : (n < 0 ∨ n > 65536) → rsE n = 1 ∧ rsT t n = t := fun h => ⟨if_pos h, if_pos h⟩
  refine br_if (fun h => ?_) (fun h => br_if (fun h' => ?_) (fun h' => ?_))
  · obtain ⟨e1, e2⟩ := bad (.inl h)
    rw [e1, e2]; exact ⟨rfl, rfl, rfl, rfl, rfl, fPl _⟩
  · obtain ⟨e1, e2⟩ := bad (.inr h')
    rw [e1, e2]; exact ⟨rfl, rfl, rfl, rfl, rfl, fPl _⟩
  · have e1 : rsE n = 0 := if_neg (by omega)
    have e2 : rsT t n = ⟨t.l.take (kpN t.l n t.l.length), t.l.drop (kpN t.l n t.l.length) ++ t.j, n⟩ := if_neg (by omega)
    rw [e1, e2]
    refine ⟨⟨fPl _, fPl _, ⟨t.l, t.j, rfl, rfl, rfl, by omega, by omega⟩⟩, rfl, by simp only; rw [List.length_take]; omega, rfl, rfl, ?_, fPl _⟩
    simp only; rw [← List.append_assoc, List.take_append_drop]
theorem row_T (l j : List Fl) (m : Int) : rowT (gOwn enF (l ++ j)) l.length m = ⟨l, j, m⟩ := by
  unfold rowT
  rw [show decF (gOwn enF (l ++ j)).cells = l ++ j from decF_gC _, List.take_left, List.drop_left]
theorem addT_m (t : Tb) (f : Fl) : (addT t f).most = t.most := by unfold addT; split <;> rfl
theorem rsT_m (t : Tb) (n : Int) : (rsT t n).most = if n < 0 ∨ n > 65536 then t.most else n := by unfold rsT; split <;> rfl
theorem ad_mk (l j : List Fl) (m : Int) (a b : List UInt8) : adN ⟨gC enF (l ++ j), false, .cells true⟩ l.length m (bs a) (bs b) = (addT ⟨l, j, m⟩ ⟨a, b⟩).l.length ∧ adS ⟨gC enF (l ++ j), false, .cells true⟩ l.length m (bs a) (bs b) = (smN (addT ⟨l, j, m⟩ ⟨a, b⟩).l : Nat) ∧ adC ⟨gC enF (l ++ j), false, .cells true⟩ l.length m (bs a) (bs b) = gC enF ((addT ⟨l, j, m⟩ ⟨a, b⟩).l ++ (addT ⟨l, j, m⟩ ⟨a, b⟩).j) := by
  have h := row_T l j m
  unfold gOwn at h
  unfold adN adS adC
  refine ⟨(Classical.choose_spec (nat_ex0 _)).trans ?_, (Classical.choose_spec (in_ex _)).trans ?_, (Classical.choose_spec (lf_ex _)).trans ?_⟩ <;> rw [h] <;> rfl
theorem rs_mk (l j : List Fl) (m k : Int) : rsN ⟨gC enF (l ++ j), false, .cells true⟩ l.length m k = (rsT ⟨l, j, m⟩ k).l.length ∧ rsS ⟨gC enF (l ++ j), false, .cells true⟩ l.length m k = (smN (rsT ⟨l, j, m⟩ k).l : Nat) ∧ rsC ⟨gC enF (l ++ j), false, .cells true⟩ l.length m k = gC enF ((rsT ⟨l, j, m⟩ k).l ++ (rsT ⟨l, j, m⟩ k).j) := by
  have h := row_T l j m
  unfold gOwn at h
  unfold rsN rsS rsC
  refine ⟨(Classical.choose_spec (nat_ex0 _)).trans ?_, (Classical.choose_spec (in_ex _)).trans ?_, (Classical.choose_spec (lf_ex _)).trans ?_⟩ <;> rw [h]
theorem z_rsM (m k : Int) : rsM m k = if k < 0 ∨ k > 65536 then m else k := Classical.choose_spec (in_ex _)
theorem z_rsZ (k : Int) : rsZ k = rsE k := Classical.choose_spec (in_ex _)
theorem kp_sum (l : List Fl) (room : Int) (h : 0 ≤ room) : ∀ k, (smN (l.take (kpN l room k)) : Int) ≤ room
  | 0 => by rw [kpN, List.take_zero]; exact h
  | k + 1 => by
    have := kp_sum l room h k
    unfold kpN; split
    · exact this
    · omega
def Ok (t : Tb) : Prop := (smN t.l : Int) ≤ t.most ∧ 0 ≤ t.most ∧ t.most ≤ 65536
theorem ok_rs (t : Tb) (n : Int) (h : Ok t) : Ok (rsT t n) := by
  unfold rsT; split
  · exact h
  · have := kp_sum t.l n (by omega) t.l.length
    exact ⟨this, by simp only; omega, by simp only; omega⟩
theorem kp_neg (l : List Fl) (room : Int) (h : room < 0) : ∀ k, kpN l room k = 0
  | 0 => rfl
  | k + 1 => by rw [kpN, if_pos (by omega), kp_neg l room h k]
theorem ok_ad (t : Tb) (f : Fl) (h : Ok t) : Ok (addT t f) := by
  obtain ⟨h1, h2, h3⟩ := h
  unfold addT; split
  · rename_i q
    refine ⟨?_, h2, h3⟩
    simp only
    rw [kp_neg _ _ (by omega), List.take_zero]; exact h2
  · rename_i q
    refine ⟨?_, h2, h3⟩
    have := kp_sum t.l (t.most - fbN f) (by omega) t.l.length
    have e : ∀ r : List Fl, smN (f :: r) = fbN f + smN r := fun r => by unfold smN; rw [List.map_cons, List.sum_cons]
    simp only [e]; omega
theorem ok_len (l : List Fl) : l.length * 32 ≤ smN l := by
  induction l with
  | nil => exact Nat.le_refl _
  | cons f l ih =>
    have e : smN (f :: l) = fbN f + smN l := by unfold smN; rw [List.map_cons, List.sum_cons]
    have : 32 ≤ fbN f := by unfold fbN; omega
    rw [e, List.length_cons]; omega
theorem eAddT_ok : EntOk Try.prog eAddT := by
  intro a rows p v n' rl he hp
  simp only [eAddT] at he
  split at he
  · simp only [Option.some.injEq, Prod.mk.injEq] at he
    obtain ⟨rfl, rfl, rfl, rfl⟩ := he
    rename_i x y n s m r1
    obtain ⟨⟨l, j, rfl, rfl, rfl, h1, h2⟩, h3, h4, h5⟩ := hp
    rw [z_fbZ] at h3
    have := Ad_con ⟨l, j, m⟩ ⟨L x, L y⟩ h1 h2 h3 h4 h5
    unfold tbC at this
    rw [z_smZ] at this
    simp only [List.take_length, addT_m] at this
    have e1 := Classical.choose_spec (nat_ex0 (addT (rowT (gOwn enF (l ++ j)) l.length m) ⟨L x, L y⟩).l.length)
    have e2 := Classical.choose_spec (in_ex (smN (addT (rowT (gOwn enF (l ++ j)) l.length m) ⟨L x, L y⟩).l : Nat))
    have e3 := Classical.choose_spec (lf_ex (gC enF ((addT (rowT (gOwn enF (l ++ j)) l.length m) ⟨L x, L y⟩).l ++ (addT (rowT (gOwn enF (l ++ j)) l.length m) ⟨L x, L y⟩).j)))
    unfold adN adS adC
    rw [e1, e2, e3, row_T]
    exact this
  · simp at he
theorem eResT_ok : EntOk Try.prog eResT := by
  intro a rows p v n' rl he hp
  simp only [eResT] at he
  split at he
  · simp only [Option.some.injEq, Prod.mk.injEq] at he
    obtain ⟨rfl, rfl, rfl, rfl⟩ := he
    rename_i k n s m r1
    obtain ⟨l, j, rfl, rfl, rfl, h1, h2⟩ := hp
    have := Rs_con ⟨l, j, m⟩ k (by simp only; omega) (by simp only; omega)
    unfold tbC at this
    rw [z_smZ] at this
    simp only [List.take_length, rsT_m] at this
    have e1 := Classical.choose_spec (nat_ex0 (rsT (rowT (gOwn enF (l ++ j)) l.length m) k).l.length)
    have e2 := Classical.choose_spec (in_ex (smN (rsT (rowT (gOwn enF (l ++ j)) l.length m) k).l : Nat))
    have e3 := Classical.choose_spec (lf_ex (gC enF ((rsT (rowT (gOwn enF (l ++ j)) l.length m) k).l ++ (rsT (rowT (gOwn enF (l ++ j)) l.length m) k).j)))
    have e4 := Classical.choose_spec (in_ex (if k < 0 ∨ k > 65536 then m else k))
    have e5 := Classical.choose_spec (in_ex (rsE k))
    unfold rsN rsS rsC rsM rsZ
    rw [e1, e2, e3, e4, e5, row_T]
    exact this
  · simp at he
end Go.Proofs.Ytellbmbklfbbfaa.tb
