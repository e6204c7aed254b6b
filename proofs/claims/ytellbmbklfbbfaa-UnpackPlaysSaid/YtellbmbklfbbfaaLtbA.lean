/- The dynamic table: what goes when it shrinks. -/
import Derived.Test.YtellbmbklfbbfaaSz9
import Derived.Test.YtellbmbklfbbfaaRows
import Derived.Test.YtellbmbklfbbfaaLtok
import Derived.Test.YtellbmbklfbbfaaLbrt0
set_option maxRecDepth 20000
set_option linter.unusedSimpArgs false
set_option linter.unusedVariables false
namespace Go.Proofs.Ytellbmbklfbbfaa.tb
open Go Go.Ev Go.Sy Go.RowKit Go.Proofs.Ytellbmbklfbbfaa.gl Go.Proofs.Ytellbmbklfbbfaa.tk
theorem mixed : Try.prog.follows .mixedOrders = true := by kernel_rfl
noncomputable abbrev E0 : Env := envN Try.prog
theorem nat_ex0 (s : Nat) : ∃ v, v = s := ⟨s, rfl⟩
def fbN (f : Fl) : Nat := f.n.length + f.v.length + 32
noncomputable def fbZ (a b : ByteArray) : Nat := Classical.choose (nat_ex0 (fbN ⟨L a, L b⟩))
def smN (l : List Fl) : Nat := (l.map fbN).sum
def kpN (l : List Fl) (room : Int) : Nat → Nat
  | 0 => 0
  | k + 1 => if (smN (l.take (k + 1)) : Int) > room then kpN l room k else k + 1
theorem nn_ex (f : List Fl → Nat → Nat) : ∃ g, g = f := ⟨f, rfl⟩
noncomputable def smZ : List Fl → Nat → Nat := Classical.choose (nn_ex fun l k => smN (l.take k))
noncomputable def kpZ (l : List Fl) (room : Int) : Nat := Classical.choose (nat_ex0 (kpN l room l.length))
structure Tb where
  l : List Fl
  j : List Fl
  most : Int
noncomputable def tbC (t : Tb) (k r : Nat) : Row := ⟨[.slice (some ⟨r, 0, none⟩) k 2, .int .i64 (smZ t.l k : Nat), .int .i64 t.most], false, .cells false⟩
structure GSh where
  t : Tb
  n : Nat
  room : Int
noncomputable def slS (g : GSh) (k : Nat) : List (Nat × Value) := [(0, .pointer (some ⟨0, 0, none⟩)), (1, .int .i64 g.room), (4, .int .i64 (k : Nat))]
noncomputable def rwS (g : GSh) (k : Nat) : List (Nat × Row) := [(0, ⟨[.slice (some ⟨1, 0, none⟩) g.t.l.length 2, .int .i64 (smZ g.t.l k : Nat), .int .i64 g.t.most], false, .cells false⟩), (1, gOwn enF (g.t.l ++ g.t.j))]
noncomputable def wsS (g : GSh) : List (Gate Unit) := [⟨.exit 0, fun _ => True, fun _ => [(0, .pointer (some ⟨0, 0, none⟩)), (4, .int .i64 (kpZ g.t.l g.room : Nat))], fun _ => rwS g (kpZ g.t.l g.room), 2⟩]
noncomputable def specS : Sy.Spec := specOf 2 2 46 (fun g : GSh => g.t.l.length ≤ 16777216 ∧ smN g.t.l ≤ 1000000000 ∧ g.n = g.t.l.length) (fun g => slS g g.n) (fun g => rwS g g.n) wsS
noncomputable def mS := mOf [(46, [0, 0, 1], specS)]
noncomputable def eFb : EntM := entC 41 fun a r => match a, r with
  | [.agg ⟨[.string a, .string b]⟩], [] => some (fbZ a b ≤ 1000000000, .int .i64 (fbZ a b : Nat), [])
  | _, _ => none
noncomputable def tS : List EntM := [eFb]
noncomputable abbrev EtS : Env := envT Try.prog tS
theorem Fb_vc (a b : List UInt8) (n : Int) : mcall E0 noM 60 41 [.agg ⟨[.string (bs a), .string (bs b)]⟩] ⟨mkR (nums 0 []), 0⟩ (retIs 0 (.int .i64 n) []) =
  ((n = IntKind.wrap IntKind.i64 (IntKind.wrap IntKind.i64 (Int.ofNat (List.length (Array.toList (ByteArray.data (bs a)))) + Int.ofNat (List.length (Array.toList
  (ByteArray.data (bs b))))) + (32 : Int))) /\ True) := by kernel_rfl
theorem S_round (g : GSh) (k : Nat) (Inv : Nat → Prop) (m : Nat → Nat) : mev EtS noM 60 46 (0 :: [0, 0, 1]) false (codeOf Try.prog 46 (0 :: [0, 0, 1])) ⟨mkOv (slS g k), 46, []⟩ none ⟨mkR (rwS g k), 2⟩ (roundK 2 2 46 Inv m (slS g) (rwS g) (wsS g) k) =
  (br (decide ((↑k : Int) > (0 : Int))) (br (decide ((↑(smZ g.1.1 k) : Int) > g.3)) (br (decide ((0 : Int) <= IntKind.wrap IntKind.i64 ((↑k : Int) - (1 : Int)) /\
  IntKind.wrap IntKind.i64 ((↑k : Int) - (1 : Int)) < (↑(List.length g.1.1) : Int))) ((Eq (α := Option Value) ((gC enF (g.1.1 ++ g.1.2))[0 + Int.toNat (IntKind.wrap
  IntKind.i64 ((↑k : Int) - (1 : Int))) * 2]?) (some (Value.string (cellS (gC enF (g.1.1 ++ g.1.2)) (0 + Int.toNat (IntKind.wrap IntKind.i64 ((↑k : Int) - (1 : Int))) *
  2))))) /\ ((Eq (α := Option Value) ((gC enF (g.1.1 ++ g.1.2))[0 + Int.toNat (IntKind.wrap IntKind.i64 ((↑k : Int) - (1 : Int))) * 2 + 1]?) (some (Value.string (cellS (gC
  enF (g.1.1 ++ g.1.2)) (0 + Int.toNat (IntKind.wrap IntKind.i64 ((↑k : Int) - (1 : Int))) * 2 + 1))))) /\ (((((True /\ (True /\ True)) /\ True) /\ (True /\ (True /\ fbZ
  (cellS (gC enF (g.1.1 ++ g.1.2)) (0 + Int.toNat (IntKind.wrap IntKind.i64 ((↑k : Int) - (1 : Int))) * 2)) (cellS (gC enF (g.1.1 ++ g.1.2)) (0 + Int.toNat (IntKind.wrap
  IntKind.i64 ((↑k : Int) - (1 : Int))) * 2 + 1)) <= 1000000000)))) /\ ((Value.int IntKind.i64 (↑(smZ g.1.1 k) : Int) = Value.int IntKind.i64 (↑(smZ g.1.1 k) : Int)) /\
  ((Value.int IntKind.i64 (↑(smZ g.1.1 k) : Int) = Value.int IntKind.i64 (↑(smZ g.1.1 k) : Int)) /\ ((Value.slice (some (Addr.mk 1 0 none)) (List.length g.1.1) 2 =
  Value.slice (some (Addr.mk 1 0 none)) (List.length g.1.1) 2) /\ ((Eq (α := Option Value) ((gC enF (g.1.1 ++ g.1.2))[0 + Int.toNat (IntKind.wrap IntKind.i64 ((↑k : Int) -
  (1 : Int))) * 2]?) (some (Value.string (cellS (gC enF (g.1.1 ++ g.1.2)) (0 + Int.toNat (IntKind.wrap IntKind.i64 ((↑k : Int) - (1 : Int))) * 2))))) /\ ((Eq (α := Option
  Value) ((gC enF (g.1.1 ++ g.1.2))[0 + Int.toNat (IntKind.wrap IntKind.i64 ((↑k : Int) - (1 : Int))) * 2 + 1]?) (some (Value.string (cellS (gC enF (g.1.1 ++ g.1.2)) (0 +
  Int.toNat (IntKind.wrap IntKind.i64 ((↑k : Int) - (1 : Int))) * 2 + 1))))) /\ ((Value.agg (Array.mk [Value.string (cellS (gC enF (g.1.1 ++ g.1.2)) (0 + Int.toNat
  (IntKind.wrap IntKind.i64 ((↑k : Int) - (1 : Int))) * 2)), Value.string (cellS (gC enF (g.1.1 ++ g.1.2)) (0 + Int.toNat (IntKind.wrap IntKind.i64 ((↑k : Int) - (1 : Int)))
  * 2 + 1))]) = Value.agg (Array.mk [Value.string (cellS (gC enF (g.1.1 ++ g.1.2)) (0 + Int.toNat (IntKind.wrap IntKind.i64 ((↑k : Int) - (1 : Int))) * 2)), Value.string
  (cellS (gC enF (g.1.1 ++ g.1.2)) (0 + Int.toNat (IntKind.wrap IntKind.i64 ((↑k : Int) - (1 : Int))) * 2 + 1))])) /\ (∃ j : Nat, ((Inv j) /\ ((m j < m k) /\ ((0 = 0) /\
  ((g.3 = g.3) /\ (((↑j : Int) = IntKind.wrap IntKind.i64 ((↑k : Int) - (1 : Int))) /\ ((0 = 0) /\ ((List.length g.1.1 = List.length g.1.1) /\ (((↑(smZ g.1.1 j) : Int) =
  IntKind.wrap IntKind.i64 ((↑(smZ g.1.1 k) : Int) - (↑(fbZ (cellS (gC enF (g.1.1 ++ g.1.2)) (0 + Int.toNat (IntKind.wrap IntKind.i64 ((↑k : Int) - (1 : Int))) * 2)) (cellS
  (gC enF (g.1.1 ++ g.1.2)) (0 + Int.toNat (IntKind.wrap IntKind.i64 ((↑k : Int) - (1 : Int))) * 2 + 1))) : Int))) /\ ((g.1.3 = g.1.3) /\ ((Eq (α := List Value) (gC enF
  (g.1.1 ++ g.1.2)) (gC enF (g.1.1 ++ g.1.2))) /\ ((Plain (gC enF (g.1.1 ++ g.1.2))) /\ True))))))))))))))))))))) False) (∃ y : Unit, ((True) /\ ((0 = 0) /\ (((↑(kpZ g.1.1
  g.3) : Int) = (↑k : Int)) /\ ((0 = 0) /\ ((List.length g.1.1 = List.length g.1.1) /\ (((↑(smZ g.1.1 (kpZ g.1.1 g.3)) : Int) = (↑(smZ g.1.1 k) : Int)) /\ ((g.1.3 = g.1.3)
  /\ ((Eq (α := List Value) (gC enF (g.1.1 ++ g.1.2)) (gC enF (g.1.1 ++ g.1.2))) /\ ((Plain (gC enF (g.1.1 ++ g.1.2))) /\ True))))))))))) (∃ y : Unit, ((True) /\ ((0 = 0) /\
  (((↑(kpZ g.1.1 g.3) : Int) = (↑k : Int)) /\ ((0 = 0) /\ ((List.length g.1.1 = List.length g.1.1) /\ (((↑(smZ g.1.1 (kpZ g.1.1 g.3)) : Int) = (↑(smZ g.1.1 k) : Int)) /\
  ((g.1.3 = g.1.3) /\ ((Eq (α := List Value) (gC enF (g.1.1 ++ g.1.2)) (gC enF (g.1.1 ++ g.1.2))) /\ ((Plain (gC enF (g.1.1 ++ g.1.2))) /\ True))))))))))) := by kernel_rfl
theorem S_vc (t : Tb) (k : Nat) (room : Int) : mcall EtS mS 60 46 [.pointer (some ⟨0, 0, none⟩), .int .i64 room] ⟨mkR (nums 0 [tbC t t.l.length 1, gOwn enF (t.l ++ t.j)]), 2⟩ (retIsM 2 (.tuple #[]) 2 [(0, tbC t k 1), (1, gOwn enF (t.l ++ t.j))]) =
  (∃ g : GSh, ((List.length g.1.1 <= 16777216 /\ smN g.1.1 <= 1000000000 /\ g.2 = List.length g.1.1) /\ ((0 = 0) /\ ((g.3 = room) /\ (((↑g.2 : Int) = Int.ofNat (List.length
  t.1)) /\ ((0 = 0) /\ ((List.length g.1.1 = List.length t.1) /\ (((↑(smZ g.1.1 g.2) : Int) = (↑(smZ t.1 (List.length t.1)) : Int)) /\ ((g.1.3 = t.3) /\ ((Eq (α := List
  Value) (gC enF (g.1.1 ++ g.1.2)) (gC enF (t.1 ++ t.2))) /\ ((Plain (gC enF (g.1.1 ++ g.1.2))) /\ (∀ (y : Unit), ((True) → (br (decide ((0 : Int) <= (↑0 : Int) /\ (0 : Int)
  <= (↑(kpZ g.1.1 g.3) : Int) /\ (↑(kpZ g.1.1 g.3) : Int) <= (↑(List.length g.1.1) : Int))) ((0 = 0) /\ ((k = Int.toNat (↑(kpZ g.1.1 g.3) : Int) - 0) /\ (((↑(smZ t.1 k) :
  Int) = (↑(smZ g.1.1 (kpZ g.1.1 g.3)) : Int)) /\ ((t.3 = g.1.3) /\ ((Eq (α := List Value) (gC enF (t.1 ++ t.2)) (gC enF (g.1.1 ++ g.1.2))) /\ ((Plain (gC enF (t.1 ++ t.2)))
  /\ True)))))) False)))))))))))))) := by kernel_rfl
theorem z_fbZ (a b : ByteArray) : fbZ a b = fbN ⟨L a, L b⟩ := Classical.choose_spec (nat_ex0 _)
theorem z_smZ : smZ = fun l k => smN (l.take k) := Classical.choose_spec (nn_ex _)
theorem z_kpZ (l : List Fl) (room : Int) : kpZ l room = kpN l room l.length := Classical.choose_spec (nat_ex0 _)
theorem Fb_con (a b : ByteArray) (h : fbN ⟨L a, L b⟩ ≤ 1000000000) : Con Try.prog 41 [.agg ⟨[.string a, .string b]⟩] [] (.int .i64 (fbN ⟨L a, L b⟩ : Nat)) [] := by
  obtain ⟨a, rfl⟩ : ∃ l, a = bs l := ⟨L a, rfl⟩
  obtain ⟨b, rfl⟩ : ∃ l, b = bs l := ⟨L b, rfl⟩
  refine con_vc (E := E0) mixed (calls_envN _) (lok_envN _) (M := noM) lm_none (Fb_vc a b _) ?_
  have e1 : (bs a).data.toList.length = a.length := bs_len a
  have e2 : (bs b).data.toList.length = b.length := bs_len b
  unfold fbN at h ⊢
  rw [L_bs, L_bs] at h ⊢
  simp only at h
  simp only [ofNat_eq, toNat_cast, Nat.zero_add, Nat.add_zero, Nat.mul_one, List.drop_zero, bCells_len, bCells_drop, bCells_take, bCells_app, bCells_one, bCells_plain, List.length_replicate, List.length_append, List.length_take, List.length_drop, List.take_length, and_true, true_and, and_self, decide_true, List.length_nil, List.length_cons, Nat.sub_zero, dB_mk, dB_ro, List.take_zero, e1, e2]
  rw [wr64_id (n := (a.length : Int) + (b.length : Int)) (by unfold I64; omega), wr64_id (by unfold I64; omega)]
  omega
theorem eFb_ok : EntOk Try.prog eFb := entC_ok (by
  intro a rows p v news h hp
  split at h <;> simp only [Option.some.injEq, Prod.mk.injEq, reduceCtorEq] at h
  obtain ⟨rfl, rfl, rfl⟩ := h
  rw [z_fbZ] at hp ⊢
  exact Fb_con _ _ hp)
theorem tS_ok : ∀ x ∈ tS, EntOk Try.prog x := all_cons eFb_ok (all_nil)
theorem smN_take (l : List Fl) (k : Nat) (h : k < l.length) : smN (l.take (k + 1)) = smN (l.take k) + fbN l[k] := by
  unfold smN
  rw [List.take_add_one, List.getElem?_eq_getElem h, List.map_append, List.sum_append]; simp
theorem smN_le (l : List Fl) : ∀ k, smN (l.take k) ≤ smN l := by
  intro k
  have : smN l = smN (l.take k) + smN (l.drop k) := by
    unfold smN
    rw [← List.sum_append, ← List.map_append, List.take_append_drop]
  omega
theorem kpN_le (l : List Fl) (room : Int) : ∀ k, kpN l room k ≤ k
  | 0 => Nat.le_refl _
  | k + 1 => by
    have := kpN_le l room k
    unfold kpN; split <;> omega
theorem S_piece : PieceOk EtS 2 (46, [0, 0, 1], specS) := by
  refine piece_loop mixed (calls_envT tS_ok) (lok_envT _ _) lm_none (n := 60) (by kernel_rfl) (fun g : GSh => g.n) (fun g k => k ≤ g.t.l.length ∧ kpN g.t.l g.room k = kpN g.t.l g.room g.t.l.length) (fun g k => k) (sl := slS) (rl := rwS) (fun g hg => ⟨by rw [hg.2.2]; exact Nat.le_refl _, by rw [hg.2.2]⟩) (fun g k hg hi => ?_)
  refine (S_round g k _ _).mpr ?_
  obtain ⟨g1, g2, g3⟩ := hg
  obtain ⟨h1, h2⟩ := hi
  simp only [ofNat_eq, toNat_cast, Nat.zero_add, Nat.add_zero, Nat.mul_one, List.drop_zero, bCells_len, bCells_drop, bCells_take, bCells_app, bCells_one, bCells_plain, List.length_replicate, List.length_append, List.length_take, List.length_drop, List.take_length, and_true, true_and, and_self, decide_true, List.length_nil, List.length_cons, Nat.sub_zero, dB_mk, dB_ro, List.take_zero, z_fbZ, z_smZ, z_kpZ]
  have out : kpN g.t.l g.room k = k → ∃ _ : Unit, ((kpN g.t.l g.room g.t.l.length : Nat) : Int) = (k : Int) ∧ ((smN (g.t.l.take (kpN g.t.l g.room g.t.l.length)) : Nat) : Int) = ((smN (g.t.l.take k) : Nat) : Int) ∧ Plain (gC enF (g.t.l ++ g.t.j)) := fun e => by
    rw [h2] at e; rw [e]; exact ⟨(), rfl, rfl, fPl _⟩
  refine br_if (fun h => br_if (fun q => ?_) (fun q => ?_)) (fun h => ?_)
  · obtain ⟨i, rfl⟩ : ∃ i, k = i + 1 := ⟨k - 1, by omega⟩
    have w : IntKind.i64.wrap (((i + 1 : Nat) : Int) - 1) = (i : Int) := by rw [wr64_id (by unfold I64; omega)]; omega
    have hi : i < g.t.l.length := by omega
    have hi2 : i < (g.t.l ++ g.t.j).length := by rw [List.length_append]; omega
    have hge : (g.t.l ++ g.t.j)[i] = g.t.l[i] := List.getElem_append_left hi
    obtain ⟨c1, c2, c3, c4⟩ := fGet (g.t.l ++ g.t.j) i hi2
    rw [hge] at c1 c2 c3 c4
    have hs := smN_take g.t.l i hi
    have hle := smN_le g.t.l (i + 1)
    have hb : fbN ⟨L (bs g.t.l[i].n), L (bs g.t.l[i].v)⟩ = fbN g.t.l[i] := rfl
    have wz : IntKind.i64.wrap (((smN (g.t.l.take (i + 1)) : Nat) : Int) - ((fbN g.t.l[i] : Nat) : Int)) = ((smN (g.t.l.take i) : Nat) : Int) := by rw [wr64_id (by unfold I64; omega)]; omega
    simp only [w, Int.toNat_natCast, c1, c2, c3, c4, hb, wz, true_and]
    refine br_dec (by omega) ⟨by omega, i, ⟨by omega, ?_⟩, by omega, rfl, rfl, fPl _⟩
    rw [← h2, kpN, if_pos q]
  · refine out ?_
    obtain ⟨i, rfl⟩ : ∃ i, k = i + 1 := ⟨k - 1, by omega⟩
    rw [kpN, if_neg q]
  · refine out ?_
    have : k = 0 := by omega
    rw [this]; rfl
theorem S_con (t : Tb) (room : Int) (h1 : t.l.length ≤ 16777216) (h2 : smN t.l ≤ 1000000000) : ConM Try.prog 46 [.pointer (some ⟨0, 0, none⟩), .int .i64 room] [tbC t t.l.length 1, gOwn enF (t.l ++ t.j)] (.tuple #[]) 2 [(0, tbC t (kpN t.l room t.l.length) 1), (1, gOwn enF (t.l ++ t.j))] := by
  refine conM_vc (E := EtS) mixed (calls_envT tS_ok) (lok_envT _ _) (M := mS) (lm_one S_piece) (S_vc t _ room) ?_
  have hk := kpN_le t.l room t.l.length
  simp only [ofNat_eq, toNat_cast, Nat.zero_add, Nat.add_zero, Nat.mul_one, List.drop_zero, bCells_len, bCells_drop, bCells_take, bCells_app, bCells_one, bCells_plain, List.length_replicate, List.length_append, List.length_take, List.length_drop, List.take_length, and_true, true_and, and_self, decide_true, List.length_nil, List.length_cons, Nat.sub_zero, dB_mk, dB_ro, List.take_zero, z_kpZ]
  exact ⟨⟨t, t.l.length, room⟩, ⟨h1, h2, rfl⟩, rfl, rfl, rfl, rfl, rfl, rfl, fPl _, fun _ _ => br_dec (by simp only; omega) ⟨rfl, rfl, rfl, rfl, fPl _⟩⟩
end Go.Proofs.Ytellbmbklfbbfaa.tb
