/- The dynamic table: a field more. -/
import Derived.Test.YtellbmbklfbbfaaSz9
import Derived.Test.YtellbmbklfbbfaaRows
import Derived.Test.YtellbmbklfbbfaaLtbA
set_option maxRecDepth 20000
set_option linter.unusedSimpArgs false
set_option linter.unusedVariables false
namespace Go.Proofs.Ytellbmbklfbbfaa.tb
open Go Go.Ev Go.Sy Go.RowKit Go.Proofs.Ytellbmbklfbbfaa.gl Go.Proofs.Ytellbmbklfbbfaa.tk
theorem rnr_ex (f : Row → Nat → Int → Nat) : ∃ g, g = f := ⟨f, rfl⟩
noncomputable def shN : Row → Nat → Int → Nat := Classical.choose (rnr_ex fun r n room => kpN ((decF r.cells).take n) room n)
noncomputable def shM : Row → Nat → Int → Nat := Classical.choose (rnr_ex fun r n room => smN ((decF r.cells).take (kpN ((decF r.cells).take n) room n)))
def IsT (r : Row) (n : Nat) (s : Int) : Prop := ∃ l j : List Fl, r = gOwn enF (l ++ j) ∧ n = l.length ∧ s = (smN l : Nat) ∧ l.length ≤ 16777216 ∧ smN l ≤ 1000000000
noncomputable def eShr : EntM := (46, fun a r => match a, r with
  | [.pointer (some ⟨0, 0, none⟩), .int .i64 room], [⟨[.slice (some ⟨1, 0, none⟩) n 2, .int .i64 s, .int .i64 m], false, .cells false⟩, r1] =>
    some (IsT r1 n s, .tuple #[], 2, [(0, ⟨[.slice (some ⟨1, 0, none⟩) (shN r1 n room) 2, .int .i64 (shM r1 n room : Nat), .int .i64 m], false, .cells false⟩), (1, r1)])
  | _, _ => none)
def addT (t : Tb) (f : Fl) : Tb := if (fbN f : Int) > t.most then ⟨t.l.take (kpN t.l (t.most - fbN f) t.l.length), t.l.drop (kpN t.l (t.most - fbN f) t.l.length) ++ t.j, t.most⟩ else ⟨f :: t.l.take (kpN t.l (t.most - fbN f) t.l.length), [], t.most⟩
noncomputable def tAd : List EntM := [eFb, eShr]
noncomputable abbrev EtAd : Env := envT Try.prog tAd
theorem Ad_vc (t u : Tb) (a b : List UInt8) : mcall EtAd noM 60 35 [.pointer (some ⟨0, 0, none⟩), .agg ⟨[.string (bs a), .string (bs b)]⟩] ⟨mkR (nums 0 [tbC t t.l.length 1, gOwn enF (t.l ++ t.j)]), 2⟩ (retIsM 2 (.tuple #[]) 3 [(0, tbC u u.l.length 2), (2, gOwn enF (u.l ++ u.j))]) =
  (((((True /\ (True /\ True)) /\ True) /\ (True /\ (True /\ fbZ (bs a) (bs b) <= 1000000000)))) /\ ((((True /\ (True /\ True)) /\ (((True /\ (True /\ (True /\ True))) /\
  (Plain (gC enF (t.1 ++ t.2)) /\ True)) /\ ((Plain (gC enF (t.1 ++ t.2)) /\ True) /\ IsT (Row.mk (gC enF (t.1 ++ t.2)) false (Ob.cells true)) (List.length t.1) (↑(smZ t.1
  (List.length t.1)) : Int))))) /\ (br (decide ((↑(fbZ (bs a) (bs b)) : Int) > t.3)) ((0 = 0) /\ ((List.length u.1 = shN (Row.mk (gC enF (t.1 ++ t.2)) false (Ob.cells true))
  (List.length t.1) (IntKind.wrap IntKind.i64 (t.3 - (↑(fbZ (bs a) (bs b)) : Int)))) /\ (((↑(smZ u.1 (List.length u.1)) : Int) = (↑(shM (Row.mk (gC enF (t.1 ++ t.2)) false
  (Ob.cells true)) (List.length t.1) (IntKind.wrap IntKind.i64 (t.3 - (↑(fbZ (bs a) (bs b)) : Int)))) : Int)) /\ ((u.3 = t.3) /\ ((Eq (α := List Value) (gC enF (u.1 ++ u.2))
  (gC enF (t.1 ++ t.2))) /\ ((Plain (gC enF (u.1 ++ u.2))) /\ True)))))) (br (decide (0 + shN (Row.mk (gC enF (t.1 ++ t.2)) false (Ob.cells true)) (List.length t.1)
  (IntKind.wrap IntKind.i64 (t.3 - (↑(fbZ (bs a) (bs b)) : Int))) * 2 <= List.length (gC enF (t.1 ++ t.2)))) (br (allOne (List.take (shN (Row.mk (gC enF (t.1 ++ t.2)) false
  (Ob.cells true)) (List.length t.1) (IntKind.wrap IntKind.i64 (t.3 - (↑(fbZ (bs a) (bs b)) : Int))) * 2) (List.drop 0 (gC enF (t.1 ++ t.2))))) (br (decide (1 + shN (Row.mk
  (gC enF (t.1 ++ t.2)) false (Ob.cells true)) (List.length t.1) (IntKind.wrap IntKind.i64 (t.3 - (↑(fbZ (bs a) (bs b)) : Int))) <= 16777216)) ((Value.agg (Array.mk
  [Value.string (bs a), Value.string (bs b)]) = Value.agg (Array.mk [Value.string (bs a), Value.string (bs b)])) /\ ((Value.slice (some (Addr.mk 1 0 none)) (shN (Row.mk (gC
  enF (t.1 ++ t.2)) false (Ob.cells true)) (List.length t.1) (IntKind.wrap IntKind.i64 (t.3 - (↑(fbZ (bs a) (bs b)) : Int)))) 2 = Value.slice (some (Addr.mk 1 0 none)) (shN
  (Row.mk (gC enF (t.1 ++ t.2)) false (Ob.cells true)) (List.length t.1) (IntKind.wrap IntKind.i64 (t.3 - (↑(fbZ (bs a) (bs b)) : Int)))) 2) /\ ((0 = 0) /\ ((List.length u.1
  = 1 + shN (Row.mk (gC enF (t.1 ++ t.2)) false (Ob.cells true)) (List.length t.1) (IntKind.wrap IntKind.i64 (t.3 - (↑(fbZ (bs a) (bs b)) : Int)))) /\ (((↑(smZ u.1
  (List.length u.1)) : Int) = IntKind.wrap IntKind.i64 ((↑(shM (Row.mk (gC enF (t.1 ++ t.2)) false (Ob.cells true)) (List.length t.1) (IntKind.wrap IntKind.i64 (t.3 - (↑(fbZ
  (bs a) (bs b)) : Int)))) : Int) + (↑(fbZ (bs a) (bs b)) : Int))) /\ ((u.3 = t.3) /\ ((Eq (α := List Value) (gC enF (u.1 ++ u.2)) (Value.string (bs a) :: Value.string (bs
  b) :: ([] ++ List.take (shN (Row.mk (gC enF (t.1 ++ t.2)) false (Ob.cells true)) (List.length t.1) (IntKind.wrap IntKind.i64 (t.3 - (↑(fbZ (bs a) (bs b)) : Int))) * 2)
  (List.drop 0 (gC enF (t.1 ++ t.2)))))) /\ ((Plain (gC enF (u.1 ++ u.2))) /\ True)))))))) False) False) False)))) := by kernel_rfl
theorem z_shN : shN = fun r n room => kpN ((decF r.cells).take n) room n := Classical.choose_spec (rnr_ex _)
theorem z_shM : shM = fun r n room => smN ((decF r.cells).take (kpN ((decF r.cells).take n) room n)) := Classical.choose_spec (rnr_ex _)
theorem sh_mk (l j : List Fl) (room : Int) : shN (gOwn enF (l ++ j)) l.length room = kpN l room l.length ∧ shM (gOwn enF (l ++ j)) l.length room = smN (l.take (kpN l room l.length)) := by
  have hk := kpN_le l room l.length
  have hd : decF (gOwn enF (l ++ j)).cells = l ++ j := decF_gC _
  rw [z_shN, z_shM]; simp only
  rw [hd, List.take_left]
  refine ⟨rfl, ?_⟩
  rw [List.take_append_of_le_length hk]
theorem eShr_ok : EntOk Try.prog eShr := by
  intro a rows p v n' rl he hp
  simp only [eShr] at he
  split at he
  · simp only [Option.some.injEq, Prod.mk.injEq] at he
    obtain ⟨rfl, rfl, rfl, rfl⟩ := he
    obtain ⟨l, j, rfl, rfl, rfl, h1, h2⟩ := hp
    rename_i room m
    rw [(sh_mk l j _).1, (sh_mk l j _).2]
    have := S_con ⟨l, j, m⟩ room h1 h2
    unfold tbC at this
    rw [z_smZ] at this
    simp only [List.take_length] at this
    exact this
  · simp at he
theorem tAd_ok : ∀ x ∈ tAd, EntOk Try.prog x := all_cons eFb_ok (all_cons eShr_ok (all_nil))
theorem Ad_con (t : Tb) (f : Fl) (h1 : t.l.length ≤ 16777215) (h2 : smN t.l ≤ 500000000) (h3 : fbN f ≤ 100000000) (h4 : 0 ≤ t.most) (h5 : t.most ≤ 100000000) : ConM Try.prog 35 [.pointer (some ⟨0, 0, none⟩), .agg ⟨[.string (bs f.n), .string (bs f.v)]⟩] [tbC t t.l.length 1, gOwn enF (t.l ++ t.j)] (.tuple #[]) 3 [(0, tbC (addT t f) (addT t f).l.length 2), (2, gOwn enF ((addT t f).l ++ (addT t f).j))] := by
  refine conM_vc (E := EtAd) mixed (calls_envT tAd_ok) (lok_envT _ _) (M := noM) lm_none (Ad_vc t _ f.n f.v) ?_
  have hf : fbN ⟨L (bs f.n), L (bs f.v)⟩ = fbN f := rfl
  have w : IntKind.i64.wrap (t.most - ((fbN f : Nat) : Int)) = t.most - ((fbN f : Nat) : Int) := wr64_id (by unfold I64; omega)
  obtain ⟨s1, s2⟩ := sh_mk t.l t.j (t.most - ((fbN f : Nat) : Int))
  have hk := kpN_le t.l (t.most - ((fbN f : Nat) : Int)) t.l.length
  have hle := smN_le t.l (kpN t.l (t.most - ((fbN f : Nat) : Int)) t.l.length)
  unfold gOwn at s1 s2
  have one : ∀ l : List Fl, smN (l.take l.length) = smN l := fun l => by rw [List.take_length]
  simp only [ofNat_eq, toNat_cast, Nat.zero_add, Nat.add_zero, Nat.mul_one, List.drop_zero, bCells_len, bCells_drop, bCells_take, bCells_app, bCells_one, bCells_plain, List.length_replicate, List.length_append, List.length_take, List.length_drop, List.take_length, and_true, true_and, and_self, decide_true, List.length_nil, List.length_cons, Nat.sub_zero, dB_mk, dB_ro, List.take_zero, z_fbZ, z_smZ, hf, w, s1, s2, one]
  generalize hkk : kpN t.l (t.most - ((fbN f : Nat) : Int)) t.l.length = k at *
  refine ⟨by omega, ⟨fPl _, fPl _, ⟨t.l, t.j, rfl, rfl, rfl, by omega, by omega⟩⟩, br_if (fun h => ?_) (fun h => ?_)⟩
  · have e : addT t f = ⟨t.l.take k, t.l.drop k ++ t.j, t.most⟩ := by unfold addT; rw [if_pos h, hkk]
    rw [e]
    refine ⟨by simp only; rw [List.length_take]; omega, rfl, rfl, ?_, fPl _⟩
    simp only; rw [← List.append_assoc, List.take_append_drop]
  · have e : addT t f = ⟨f :: t.l.take k, [], t.most⟩ := by unfold addT; rw [if_neg h, hkk]
    have tk : List.take (k * 2) (gC enF (t.l ++ t.j)) = gC enF (t.l.take k) := by
      rw [gC_take enF_k, List.take_append_of_le_length hk]
    rw [e, tk]
    refine br_dec (by rw [fLen, List.length_append]; omega) (br_b (fOne _) (br_dec (by omega) ⟨by simp only [List.length_cons, List.length_take]; omega, ?_, rfl, ?_, fPl _⟩))
    · rw [wr64_id (by unfold I64; omega)]
      have : smN (f :: t.l.take k) = fbN f + smN (t.l.take k) := by unfold smN; rw [List.map_cons, List.sum_cons]
      simp only [this]; omega
    · simp only [List.append_nil]; rfl
end Go.Proofs.Ytellbmbklfbbfaa.tb
