/- The dynamic table: its size changed; what is known of its calls. -/
import Derived.Test.YtlkinjlbaeigdaaSz9
import Derived.Test.YtlkinjlbaeigdaaRows
import Derived.Test.YtlkinjlbaeigdaaLtbB
set_option maxRecDepth 20000
set_option linter.unusedSimpArgs false
set_option linter.unusedVariables false
namespace Go.Proofs.Ytlkinjlbaeigdaa.tb
open Go Go.Ev Go.Sy Go.RowKit Go.Proofs.Ytlkinjlbaeigdaa.gl Go.Proofs.Ytlkinjlbaeigdaa.tk
def rowT (r : Row) (n : Nat) (m : Int) : Tb := ⟨(decF r.cells).take n, (decF r.cells).drop n, m⟩
theorem lf_ex (t : List Value) : ∃ v, v = t := ⟨t, rfl⟩
theorem in_ex (t : Int) : ∃ v, v = t := ⟨t, rfl⟩
noncomputable def adN (r : Row) (n : Nat) (m : Int) (a b : ByteArray) : Nat := Classical.choose (nat_ex0 (addT (rowT r n m) ⟨L a, L b⟩).l.length)
noncomputable def adS (r : Row) (n : Nat) (m : Int) (a b : ByteArray) : Int := Classical.choose (in_ex (smN (addT (rowT r n m) ⟨L a, L b⟩).l : Nat))
noncomputable def adC (r : Row) (n : Nat) (m : Int) (a b : ByteArray) : List Value := Classical.choose (lf_ex (gC enF ((addT (rowT r n m) ⟨L a, L b⟩).l ++ (addT (rowT r n m) ⟨L a, L b⟩).j)))
def IsTb (r : Row) (n : Nat) (s : Int) : Prop := ∃ l j : List Fl, r = gOwn enF (l ++ j) ∧ n = l.length ∧ s = (smN l : Nat) ∧ l.length ≤ 16777215 ∧ smN l ≤ 500000000
noncomputable def eAddT : EntM := (44, fun a r => match a, r with
  | [.pointer (some ⟨0, 0, none⟩), .agg ⟨[.string x, .string y]⟩], [⟨[.slice (some ⟨1, 0, none⟩) n 2, .int .i64 s, .int .i64 m], false, .cells false⟩, r1] =>
    some (IsTb r1 n s ∧ fbZ x y ≤ 100000000 ∧ 0 ≤ m ∧ m ≤ 100000000, .tuple #[], 3, [(0, ⟨[.slice (some ⟨2, 0, none⟩) (adN r1 n m x y) 2, .int .i64 (adS r1 n m x y), .int .i64 m], false, .cells false⟩), (2, ⟨adC r1 n m x y, false, .cells true⟩)])
  | _, _ => none)
theorem row_T (l j : List Fl) (m : Int) : rowT (gOwn enF (l ++ j)) l.length m = ⟨l, j, m⟩ := by
  unfold rowT
  rw [show decF (gOwn enF (l ++ j)).cells = l ++ j from decF_gC _, List.take_left, List.drop_left]
theorem addT_m (t : Tb) (f : Fl) : (addT t f).most = t.most := by unfold addT; split <;> rfl
theorem ad_mk (l j : List Fl) (m : Int) (a b : List UInt8) : adN ⟨gC enF (l ++ j), false, .cells true⟩ l.length m (bs a) (bs b) = (addT ⟨l, j, m⟩ ⟨a, b⟩).l.length ∧ adS ⟨gC enF (l ++ j), false, .cells true⟩ l.length m (bs a) (bs b) = (smN (addT ⟨l, j, m⟩ ⟨a, b⟩).l : Nat) ∧ adC ⟨gC enF (l ++ j), false, .cells true⟩ l.length m (bs a) (bs b) = gC enF ((addT ⟨l, j, m⟩ ⟨a, b⟩).l ++ (addT ⟨l, j, m⟩ ⟨a, b⟩).j) := by
  have h := row_T l j m
  unfold gOwn at h
  unfold adN adS adC
  refine ⟨(Classical.choose_spec (nat_ex0 _)).trans ?_, (Classical.choose_spec (in_ex _)).trans ?_, (Classical.choose_spec (lf_ex _)).trans ?_⟩ <;> rw [h] <;> rfl
theorem kp_all (l : List Fl) (room : Int) (h : (smN l : Int) ≤ room) : kpN l room l.length = l.length := by
  cases hl : l.length with
  | zero => rfl
  | succ k =>
    rw [kpN, if_neg]
    rw [← hl, List.take_length]; omega
theorem kp_sum (l : List Fl) (room : Int) (h : 0 ≤ room) : ∀ k, (smN (l.take (kpN l room k)) : Int) ≤ room
  | 0 => by rw [kpN, List.take_zero]; exact h
  | k + 1 => by
    have := kp_sum l room h k
    unfold kpN; split
    · exact this
    · omega
def Ok (t : Tb) : Prop := (smN t.l : Int) ≤ t.most ∧ 0 ≤ t.most ∧ t.most ≤ 65536
theorem kp_neg (l : List Fl) (room : Int) (h : room < 0) : ∀ k, kpN l room k = 0
  | 0 => rfl
  | k + 1 => by rw [kpN, if_pos (by omega), kp_neg l room h k]
theorem ok_ad (t : Tb) (f : Fl) (h : Ok t) : Ok (addT t f) := by
  obtain ⟨h1, h2, h3⟩ := h
  unfold addT; split
  · rename_i q
    refine ⟨?_, h2, h3⟩
    simp only
    rw [kp_neg _ _ (by omega), List.take_zero]; exact h2
  · rename_i q
    refine ⟨?_, h2, h3⟩
    have := kp_sum t.l (t.most - fbN f) (by omega) t.l.length
    have e : ∀ r : List Fl, smN (f :: r) = fbN f + smN r := fun r => by unfold smN; rw [List.map_cons, List.sum_cons]
    simp only [e]; omega
theorem ok_len (l : List Fl) : l.length * 32 ≤ smN l := by
  induction l with
  | nil => exact Nat.le_refl _
  | cons f l ih =>
    have e : smN (f :: l) = fbN f + smN l := by unfold smN; rw [List.map_cons, List.sum_cons]
    have : 32 ≤ fbN f := by unfold fbN; omega
    rw [e, List.length_cons]; omega
theorem eAddT_ok : EntOk Try.prog eAddT := by
  intro a rows p v n' rl he hp
  simp only [eAddT] at he
  split at he
  · simp only [Option.some.injEq, Prod.mk.injEq] at he
    obtain ⟨rfl, rfl, rfl, rfl⟩ := he
    rename_i x y n s m r1
    obtain ⟨⟨l, j, rfl, rfl, rfl, h1, h2⟩, h3, h4, h5⟩ := hp
    rw [z_fbZ] at h3
    have := Ad_con ⟨l, j, m⟩ ⟨L x, L y⟩ h1 h2 h3 h4 h5
    unfold tbC at this
    rw [z_smZ] at this
    simp only [List.take_length, addT_m] at this
    have e1 := Classical.choose_spec (nat_ex0 (addT (rowT (gOwn enF (l ++ j)) l.length m) ⟨L x, L y⟩).l.length)
    have e2 := Classical.choose_spec (in_ex (smN (addT (rowT (gOwn enF (l ++ j)) l.length m) ⟨L x, L y⟩).l : Nat))
    have e3 := Classical.choose_spec (lf_ex (gC enF ((addT (rowT (gOwn enF (l ++ j)) l.length m) ⟨L x, L y⟩).l ++ (addT (rowT (gOwn enF (l ++ j)) l.length m) ⟨L x, L y⟩).j)))
    unfold adN adS adC
    rw [e1, e2, e3, row_T]
    exact this
  · simp at he
end Go.Proofs.Ytlkinjlbaeigdaa.tb
