/- The document's own table: its size, what goes, a field more. -/
import Derived.Test.YtellbmbklfbbfaaSz9
import Derived.Test.YtellbmbklfbbfaaRows
import Derived.Test.YtellbmbklfbbfaaLtbG
set_option maxRecDepth 20000
set_option linter.unusedSimpArgs false
set_option linter.unusedVariables false
namespace Go.Proofs.Ytellbmbklfbbfaa.tb
open Go Go.Ev Go.Sy Go.RowKit Go.Proofs.Ytellbmbklfbbfaa.gl Go.Proofs.Ytellbmbklfbbfaa.tk
def rtC (n : Nat) (m : Int) (r : Nat) : Row := ⟨[.slice (some ⟨r, 0, none⟩) n 2, .int .i64 m], false, .cells false⟩
theorem rni_ex (f : Row → Nat → Int) : ∃ g, g = f := ⟨f, rfl⟩
noncomputable def szR : Row → Nat → Int := Classical.choose (rni_ex fun r n => (smN ((decF r.cells).take n) : Nat))
def IsTr (r : Row) (n : Nat) : Prop := ∃ l j : List Fl, r = gOwn enF (l ++ j) ∧ n ≤ l.length ∧ l.length ≤ 16777216 ∧ smN l ≤ 1000000000
noncomputable def eFbR : EntM := entC 28 fun a r => match a, r with
  | [.agg ⟨[.string a, .string b]⟩], [] => some (fbZ a b ≤ 1000000000, .int .i64 (fbZ a b : Nat), [])
  | _, _ => none
noncomputable def tR0 : List EntM := [eFbR]
noncomputable abbrev EtR0 : Env := envT Try.prog tR0
structure GSz where
  l : List Fl
  j : List Fl
  n : Nat
  m : Int
noncomputable def slZ (g : GSz) (i : Nat) : List (Nat × Value) := [(0, .pointer (some ⟨0, 0, none⟩)), (3, .int .i64 (smZ g.l i : Nat)), (4, .int .i64 (i : Nat))]
noncomputable def rwZ (g : GSz) : List (Nat × Row) := [(0, rtC g.n g.m 1), (1, gOwn enF (g.l ++ g.j))]
noncomputable def wsZ (g : GSz) : List (Gate Unit) := [⟨.exit 0, fun _ => True, fun _ => [(0, .pointer (some ⟨0, 0, none⟩)), (3, .int .i64 (smZ g.l g.n : Nat))], fun _ => rwZ g, 2⟩]
noncomputable def specZ : Sy.Spec := specOf 2 2 25 (fun g : GSz => g.n ≤ g.l.length ∧ g.l.length ≤ 16777216 ∧ smN g.l ≤ 1000000000) (fun g => slZ g 0) rwZ wsZ
noncomputable def mZ := mOf [(16, [0, 1, 0, 1, 1], specZ)]
noncomputable def eSzR : EntM := (16, fun a r => match a, r with
  | [.pointer (some ⟨0, 0, none⟩)], [⟨[.slice (some ⟨1, 0, none⟩) n 2, .int .i64 m], false, .cells false⟩, r1] =>
    some (IsTr r1 n, .int .i64 (szR r1 n), 2, [(0, ⟨[.slice (some ⟨1, 0, none⟩) n 2, .int .i64 m], false, .cells false⟩), (1, r1)])
  | _, _ => none)
noncomputable def tR1 : List EntM := [eSzR]
noncomputable abbrev EtR1 : Env := envT Try.prog tR1
structure GFt where
  l : List Fl
  j : List Fl
  m : Int
  room : Int
def slT (g : GFt) : List (Nat × Value) := [(0, .pointer (some ⟨0, 0, none⟩)), (1, .int .i64 g.room)]
def rwT2 (g : GFt) (k : Nat) : List (Nat × Row) := [(0, rtC k g.m 1), (1, gOwn enF (g.l ++ g.j))]
noncomputable def wsT (g : GFt) : List (Gate Unit) := [⟨.exit 0, fun _ => True, fun _ => slT g, fun _ => rwT2 g (kpZ g.l (g.m - g.room)), 2⟩]
noncomputable def specFt : Sy.Spec := specOf 2 2 35 (fun g : GFt => g.l.length ≤ 16777216 ∧ smN g.l ≤ 1000000000 ∧ I64 (g.m - g.room)) slT (fun g => rwT2 g g.l.length) wsT
noncomputable def mFt := mOf [(37, [0], specFt)]
noncomputable def eFit : EntM := (37, fun a r => match a, r with
  | [.pointer (some ⟨0, 0, none⟩), .int .i64 room], [⟨[.slice (some ⟨1, 0, none⟩) n 2, .int .i64 m], false, .cells false⟩, r1] =>
    some (IsT r1 n (szR r1 n) ∧ I64 (m - room), .tuple #[], 2, [(0, ⟨[.slice (some ⟨1, 0, none⟩) (shN r1 n (m - room)) 2, .int .i64 m], false, .cells false⟩), (1, r1)])
  | _, _ => none)
noncomputable def tR2 : List EntM := [eFbR, eFit]
noncomputable abbrev EtR2 : Env := envT Try.prog tR2
theorem FbR_vc (a b : List UInt8) (n : Int) : mcall E0 noM 60 28 [.agg ⟨[.string (bs a), .string (bs b)]⟩] ⟨mkR (nums 0 []), 0⟩ (retIs 0 (.int .i64 n) []) =
  ((n = IntKind.wrap IntKind.i64 (IntKind.wrap IntKind.i64 (Int.ofNat (List.length (Array.toList (ByteArray.data (bs a)))) + Int.ofNat (List.length (Array.toList
  (ByteArray.data (bs b))))) + (32 : Int))) /\ True) := by kernel_rfl
theorem Z_round (g : GSz) (i : Nat) (Inv : Nat → Prop) (m : Nat → Nat) : mev EtR0 noM 60 16 (0 :: [0, 1, 0, 1, 1]) false (codeOf Try.prog 16 (0 :: [0, 1, 0, 1, 1])) ⟨mkOv (slZ g i), 25, []⟩ none ⟨mkR (rwZ g), 2⟩ (roundK 2 2 25 Inv m (slZ g) (fun _ => rwZ g) (wsZ g) i) =
  let z1 := ((0 = 0) /\ ((g.3 = g.3) /\ ((g.4 = g.4) /\ ((Eq (α := List Value) (gC enF (g.1 ++ g.2)) (gC enF (g.1 ++ g.2))) /\ ((Plain (gC enF (g.1 ++ g.2))) /\ True)))));
  let z2 := (cellS (gC enF (g.1 ++ g.2)) (0 + Int.toNat (↑i : Int) * 2 + 1)); let z3 := (cellS (gC enF (g.1 ++ g.2)) (0 + Int.toNat (↑i : Int) * 2)); (br (decide ((↑i : Int)
  < Int.ofNat g.3)) (br (decide ((0 : Int) <= (↑i : Int) /\ (↑i : Int) < (↑g.3 : Int))) ((Eq (α := Option Value) ((gC enF (g.1 ++ g.2))[0 + Int.toNat (↑i : Int) * 2]?) (some
  (Value.string z3))) /\ ((Eq (α := Option Value) ((gC enF (g.1 ++ g.2))[0 + Int.toNat (↑i : Int) * 2 + 1]?) (some (Value.string z2))) /\ (((((True /\ (True /\ True)) /\
  True) /\ (True /\ (True /\ fbZ z3 z2 <= 1000000000)))) /\ (∃ j : Nat, ((Inv j) /\ ((m j < m i) /\ ((0 = 0) /\ (((↑(smZ g.1 j) : Int) = IntKind.wrap IntKind.i64 ((↑(smZ g.1
  i) : Int) + (↑(fbZ z3 z2) : Int))) /\ (((↑j : Int) = IntKind.wrap IntKind.i64 ((↑i : Int) + (1 : Int))) /\ z1))))))))) False) (∃ y : Unit, ((True) /\ ((0 = 0) /\ (((↑(smZ
  g.1 g.3) : Int) = (↑(smZ g.1 i) : Int)) /\ z1))))) := by kernel_rfl
theorem Z_vc (l j : List Fl) (n : Nat) (m s : Int) : mcall EtR0 mZ 60 16 [.pointer (some ⟨0, 0, none⟩)] ⟨mkR (nums 0 [rtC n m 1, gOwn enF (l ++ j)]), 2⟩ (retIsM 2 (.int .i64 s) 2 [(0, rtC n m 1), (1, gOwn enF (l ++ j))]) =
  (∃ g : GSz, ((g.3 <= List.length g.1 /\ List.length g.1 <= 16777216 /\ smN g.1 <= 1000000000) /\ ((0 = 0) /\ (((↑(smZ g.1 0) : Int) = (0 : Int)) /\ (((0 : Int) = (0 :
  Int)) /\ ((0 = 0) /\ ((g.3 = n) /\ ((g.4 = m) /\ ((Eq (α := List Value) (gC enF (g.1 ++ g.2)) (gC enF (l ++ j))) /\ ((Plain (gC enF (g.1 ++ g.2))) /\ (∀ (y : Unit),
  ((True) → ((s = (↑(smZ g.1 g.3) : Int)) /\ ((0 = 0) /\ ((n = g.3) /\ ((m = g.4) /\ ((Eq (α := List Value) (gC enF (l ++ j)) (gC enF (g.1 ++ g.2))) /\ ((Plain (gC enF (l ++
  j))) /\ True)))))))))))))))))) := by kernel_rfl
theorem Ft_round (g : GFt) (k : Nat) (Inv : Nat → Prop) (m : Nat → Nat) : mev EtR1 noM 60 37 (0 :: [0]) false (codeOf Try.prog 37 (0 :: [0])) ⟨mkOv (slT g), 35, []⟩ none ⟨mkR (rwT2 g k), 2⟩ (roundK 2 2 35 Inv m (fun _ => slT g) (rwT2 g) (wsT g) k) =
  let z1 := (Value.slice (some (Addr.mk 1 0 none)) k 2 = Value.slice (some (Addr.mk 1 0 none)) k 2); let z2 := ((g.3 = g.3) /\ ((Eq (α := List Value) (gC enF (g.1 ++ g.2))
  (gC enF (g.1 ++ g.2))) /\ ((Plain (gC enF (g.1 ++ g.2))) /\ True))); let z3 := (decide ((0 : Int) <= (↑0 : Int) /\ (0 : Int) <= IntKind.wrap IntKind.i64 (Int.ofNat k - (1
  : Int)) /\ IntKind.wrap IntKind.i64 (Int.ofNat k - (1 : Int)) <= (↑k : Int))); let z4 := (IntKind.wrap IntKind.i64 (Int.ofNat k - (1 : Int))); let z5 := ((True) /\ ((0 =
  0) /\ ((g.4 = g.4) /\ ((0 = 0) /\ ((kpZ g.1 (g.3 - g.4) = k) /\ z2))))); let z6 := (Value.int IntKind.i64 g.3 = Value.int IntKind.i64 g.3); let z7 := (Row.mk (gC enF (g.1
  ++ g.2)) false (Ob.cells true)); (br (decide (Int.ofNat k > (0 : Int))) ((((True /\ True) /\ (((True /\ (True /\ True)) /\ (Plain (gC enF (g.1 ++ g.2)) /\ True)) /\
  ((Plain (gC enF (g.1 ++ g.2)) /\ True) /\ IsTr z7 k)))) /\ (z1 /\ (z6 /\ (z6 /\ (br (decide (szR z7 k > IntKind.wrap IntKind.i64 (g.3 - g.4))) (br z3 (z1 /\ (z1 /\ (br z3
  ((Value.slice (some (Addr.mk 1 0 none)) (Int.toNat z4 - 0) 2 = Value.slice (some (Addr.mk 1 0 none)) (Int.toNat z4 - 0) 2) /\ (∃ j : Nat, ((Inv j) /\ ((m j < m k) /\ ((0 =
  0) /\ ((g.4 = g.4) /\ ((0 = 0) /\ ((j = Int.toNat z4 - 0) /\ z2)))))))) False))) False) (∃ y : Unit, z5)))))) (z1 /\ (∃ y : Unit, z5))) := by kernel_rfl
theorem Ft_vc (l j : List Fl) (m room : Int) (k : Nat) : mcall EtR1 mFt 60 37 [.pointer (some ⟨0, 0, none⟩), .int .i64 room] ⟨mkR (nums 0 [rtC l.length m 1, gOwn enF (l ++ j)]), 2⟩ (retIsM 2 (.tuple #[]) 2 [(0, rtC k m 1), (1, gOwn enF (l ++ j))]) =
  (∃ g : GFt, ((List.length g.1 <= 16777216 /\ smN g.1 <= 1000000000 /\ I64 (g.3 - g.4)) /\ ((0 = 0) /\ ((g.4 = room) /\ ((0 = 0) /\ ((List.length g.1 = List.length l) /\
  ((g.3 = m) /\ ((Eq (α := List Value) (gC enF (g.1 ++ g.2)) (gC enF (l ++ j))) /\ ((Plain (gC enF (g.1 ++ g.2))) /\ (∀ (y : Unit), ((True) → ((0 = 0) /\ ((k = kpZ g.1 (g.3
  - g.4)) /\ ((m = g.3) /\ ((Eq (α := List Value) (gC enF (l ++ j)) (gC enF (g.1 ++ g.2))) /\ ((Plain (gC enF (l ++ j))) /\ True)))))))))))))))) := by kernel_rfl
theorem AdR_vc (t u : Tb) (a b : List UInt8) : mcall EtR2 noM 60 40 [.pointer (some ⟨0, 0, none⟩), .agg ⟨[.string (bs a), .string (bs b)]⟩] ⟨mkR (nums 0 [rtC t.l.length t.most 1, gOwn enF (t.l ++ t.j)]), 2⟩ (retIsM 2 (.tuple #[]) 3 [(0, rtC u.l.length u.most 2), (2, gOwn enF (u.l ++ u.j))]) =
  let z1 := (Row.mk (gC enF (t.1 ++ t.2)) false (Ob.cells true)); let z2 := (Array.mk [Value.string (bs a), Value.string (bs b)]); let z3 := ((((True /\ (True /\ True)) /\
  True) /\ (True /\ (True /\ fbZ (bs a) (bs b) <= 1000000000)))); let z4 := (shN z1 (List.length t.1) (t.3 - (↑(fbZ (bs a) (bs b)) : Int)) * 2); let z5 := (shN z1
  (List.length t.1) (t.3 - (↑(fbZ (bs a) (bs b)) : Int))); let z6 := (Value.int IntKind.i64 t.3 = Value.int IntKind.i64 t.3); (z3 /\ ((((True /\ (True /\ True)) /\ (((True
  /\ (True /\ True)) /\ (Plain (gC enF (t.1 ++ t.2)) /\ True)) /\ ((Plain (gC enF (t.1 ++ t.2)) /\ True) /\ (IsT z1 (List.length t.1) (szR z1 (List.length t.1)) /\ I64 (t.3
  - (↑(fbZ (bs a) (bs b)) : Int))))))) /\ (z3 /\ ((Value.agg z2 = Value.agg z2) /\ (z6 /\ (z6 /\ (br (decide ((↑(fbZ (bs a) (bs b)) : Int) <= t.3)) (br (decide (0 + shN z1
  (List.length t.1) (t.3 - (↑(fbZ (bs a) (bs b)) : Int)) * 2 <= List.length (gC enF (t.1 ++ t.2)))) (br (allOne (List.take z4 (List.drop 0 (gC enF (t.1 ++ t.2))))) (br
  (decide (1 + shN z1 (List.length t.1) (t.3 - (↑(fbZ (bs a) (bs b)) : Int)) <= 16777216)) ((Value.agg z2 = Value.agg z2) /\ ((Value.slice (some (Addr.mk 1 0 none)) z5 2 =
  Value.slice (some (Addr.mk 1 0 none)) z5 2) /\ ((0 = 0) /\ ((List.length u.1 = 1 + shN z1 (List.length t.1) (t.3 - (↑(fbZ (bs a) (bs b)) : Int))) /\ ((u.3 = t.3) /\ ((Eq
  (α := List Value) (gC enF (u.1 ++ u.2)) (Value.string (bs a) :: Value.string (bs b) :: ([] ++ List.take z4 (List.drop 0 (gC enF (t.1 ++ t.2)))))) /\ ((Plain (gC enF (u.1
  ++ u.2))) /\ True))))))) False) False) False) ((0 = 0) /\ ((List.length u.1 = shN z1 (List.length t.1) (t.3 - (↑(fbZ (bs a) (bs b)) : Int))) /\ ((u.3 = t.3) /\ ((Eq (α :=
  List Value) (gC enF (u.1 ++ u.2)) (gC enF (t.1 ++ t.2))) /\ ((Plain (gC enF (u.1 ++ u.2))) /\ True)))))))))))) := by kernel_rfl
theorem RsR_vc (t u : Tb) (n e : Int) : mcall EtR2 noM 60 26 [.pointer (some ⟨0, 0, none⟩), .int .i64 n] ⟨mkR (nums 0 [rtC t.l.length t.most 1, gOwn enF (t.l ++ t.j)]), 2⟩ (retIsM 2 (.int .i64 e) 3 [(0, rtC u.l.length u.most 2), (2, gOwn enF (u.l ++ u.j))]) =
  let z1 := ((Eq (α := List Value) (gC enF (u.1 ++ u.2)) (gC enF (t.1 ++ t.2))) /\ ((Plain (gC enF (u.1 ++ u.2))) /\ True)); let z2 := (Row.mk (gC enF (t.1 ++ t.2)) false
  (Ob.cells true)); let z3 := ((e = (1 : Int)) /\ ((0 = 0) /\ ((List.length u.1 = List.length t.1) /\ ((u.3 = t.3) /\ z1)))); (br (decide (n < (0 : Int))) z3 (br (decide (n
  > (65536 : Int))) z3 ((((True /\ (True /\ True)) /\ (((True /\ (True /\ True)) /\ (Plain (gC enF (t.1 ++ t.2)) /\ True)) /\ ((Plain (gC enF (t.1 ++ t.2)) /\ True) /\ (IsT
  z2 (List.length t.1) (szR z2 (List.length t.1)) /\ I64 (n - (0 : Int))))))) /\ ((e = (0 : Int)) /\ ((0 = 0) /\ ((List.length u.1 = shN z2 (List.length t.1) (n - (0 :
  Int))) /\ ((u.3 = n) /\ z1))))))) := by kernel_rfl
theorem z_szR : szR = fun (r : Row) (n : Nat) => ((smN ((decF r.cells).take n) : Nat) : Int) := Classical.choose_spec (rni_ex _)
theorem sz_mk (l j : List Fl) (b : Bool) (o : Ob) (n : Nat) (h : n ≤ l.length) : szR ⟨gC enF (l ++ j), b, o⟩ n = (smN (l.take n) : Nat) := by
  rw [z_szR]; simp only [decF_gC]; rw [List.take_append_of_le_length h]
theorem FbR_con (a b : ByteArray) (h : fbN ⟨L a, L b⟩ ≤ 1000000000) : Con Try.prog 28 [.agg ⟨[.string a, .string b]⟩] [] (.int .i64 (fbN ⟨L a, L b⟩ : Nat)) [] := by
  obtain ⟨a, rfl⟩ : ∃ l, a = bs l := ⟨L a, rfl⟩
  obtain ⟨b, rfl⟩ : ∃ l, b = bs l := ⟨L b, rfl⟩
  refine con_vc (E := E0) mixed (calls_envN _) (lok_envN _) (M := noM) lm_none (FbR_vc a b _) ?_
  have e1 : (bs a).data.toList.length = a.length := bs_len a
  have e2 : (bs b).data.toList.length = b.length := bs_len b
  unfold fbN at h ⊢
  rw [L_bs, L_bs] at h ⊢
  simp only at h
  simp only [ofNat_eq, toNat_cast, Nat.zero_add, Nat.add_zero, Nat.mul_one, List.drop_zero, bCells_len, bCells_drop, bCells_take, bCells_app, bCells_one, bCells_plain, List.length_replicate, List.length_append, List.length_take, List.length_drop, List.take_length, and_true, true_and, and_self, decide_true, List.length_nil, List.length_cons, Nat.sub_zero, dB_mk, dB_ro, List.take_zero, e1, e2]
  rw [wr64_id (n := (a.length : Int) + (b.length : Int)) (by unfold I64; omega), wr64_id (by unfold I64; omega)]
  omega
theorem eFbR_ok : EntOk Try.prog eFbR := entC_ok (by
  intro a rows p v news h hp
  split at h <;> simp only [Option.some.injEq, Prod.mk.injEq, reduceCtorEq] at h
  obtain ⟨rfl, rfl, rfl⟩ := h
  rw [z_fbZ] at hp ⊢
  exact FbR_con _ _ hp)
theorem tR0_ok : ∀ x ∈ tR0, EntOk Try.prog x := all_cons eFbR_ok (all_nil)
theorem Z_piece : PieceOk EtR0 2 (16, [0, 1, 0, 1, 1], specZ) := by
  refine piece_loop mixed (calls_envT tR0_ok) (lok_envT _ _) lm_none (n := 60) (by kernel_rfl) (fun _ : GSz => 0) (fun g i => i ≤ g.n) (fun g i => g.n - i) (sl := slZ) (rl := fun g _ => rwZ g) (fun g hg => Nat.zero_le _) (fun g i hg hi => ?_)
  refine (Z_round g i _ _).mpr ?_
  obtain ⟨g1, g2, g3⟩ := hg
  simp only [ofNat_eq, toNat_cast, Nat.zero_add, Nat.add_zero, Nat.mul_one, List.drop_zero, bCells_len, bCells_drop, bCells_take, bCells_app, bCells_one, bCells_plain, List.length_replicate, List.length_append, List.length_take, List.length_drop, List.take_length, and_true, true_and, and_self, decide_true, List.length_nil, List.length_cons, Nat.sub_zero, dB_mk, dB_ro, List.take_zero, z_fbZ, z_smZ, fPl]
  refine br_if (fun h => br_dec (by omega) ?_) (fun h => ⟨(), by rw [show i = g.n by omega]⟩)
  have hi2 : i < (g.l ++ g.j).length := by rw [List.length_append]; omega
  have hi1 : i < g.l.length := by omega
  have hge : (g.l ++ g.j)[i] = g.l[i] := List.getElem_append_left hi1
  obtain ⟨c1, c2, c3, c4⟩ := fGet (g.l ++ g.j) i hi2
  rw [hge] at c1 c2 c3 c4
  have hs := smN_take g.l i hi1
  have hle := smN_le g.l (i + 1)
  have hb : fbN ⟨L (bs g.l[i].n), L (bs g.l[i].v)⟩ = fbN g.l[i] := rfl
  have ws : IntKind.i64.wrap ((i : Int) + 1) = ((i + 1 : Nat) : Int) := by rw [wr64_id (by unfold I64; omega)]; omega
  rw [c3, c4, hb, wr64_id (n := ((smN (List.take i g.l) : Nat) : Int) + ((fbN g.l[i] : Nat) : Int)) (by unfold I64; omega)]
  exact ⟨c1, c2, by omega, i + 1, by omega, by omega, by omega, ws.symm⟩
theorem Z_con (l j : List Fl) (n : Nat) (m : Int) (h0 : n ≤ l.length) (h1 : l.length ≤ 16777216) (h2 : smN l ≤ 1000000000) : ConM Try.prog 16 [.pointer (some ⟨0, 0, none⟩)] [rtC n m 1, gOwn enF (l ++ j)] (.int .i64 (smN (l.take n) : Nat)) 2 [(0, rtC n m 1), (1, gOwn enF (l ++ j))] := by
  refine conM_vc (E := EtR0) mixed (calls_envT tR0_ok) (lok_envT _ _) (M := mZ) (lm_one Z_piece) (Z_vc l j n m _) ?_
  simp only [ofNat_eq, toNat_cast, Nat.zero_add, Nat.add_zero, Nat.mul_one, List.drop_zero, bCells_len, bCells_drop, bCells_take, bCells_app, bCells_one, bCells_plain, List.length_replicate, List.length_append, List.length_take, List.length_drop, List.take_length, and_true, true_and, and_self, decide_true, List.length_nil, List.length_cons, Nat.sub_zero, dB_mk, dB_ro, List.take_zero, z_smZ, fPl]
  exact ⟨⟨l, j, n, m⟩, ⟨h0, h1, h2⟩, rfl, rfl, rfl, rfl, fun _ _ => ⟨rfl, rfl, rfl, rfl⟩⟩
theorem eSzR_ok : EntOk Try.prog eSzR := by
  intro a rows p v n' rl he hp
  simp only [eSzR] at he
  split at he
  · simp only [Option.some.injEq, Prod.mk.injEq] at he
    obtain ⟨rfl, rfl, rfl, rfl⟩ := he
    obtain ⟨l, j, rfl, h0, h1, h2⟩ := hp
    unfold gOwn
    rw [sz_mk _ _ _ _ _ h0]
    exact Z_con l j _ _ h0 h1 h2
  · simp at he
theorem tR1_ok : ∀ x ∈ tR1, EntOk Try.prog x := all_cons eSzR_ok (all_nil)
theorem Ft_piece : PieceOk EtR1 2 (37, [0], specFt) := by
  refine piece_loop mixed (calls_envT tR1_ok) (lok_envT _ _) lm_none (n := 60) (by kernel_rfl) (fun g : GFt => g.l.length) (fun g k => k ≤ g.l.length ∧ kpN g.l (g.m - g.room) k = kpN g.l (g.m - g.room) g.l.length) (fun g k => k) (sl := fun g _ => slT g) (rl := rwT2) (fun g hg => ⟨Nat.le_refl _, rfl⟩) (fun g k hg hi => ?_)
  refine (Ft_round g k _ _).mpr ?_
  obtain ⟨g1, g2, g3⟩ := hg
  obtain ⟨h1, h2⟩ := hi
  simp only [ofNat_eq, toNat_cast, Nat.zero_add, Nat.add_zero, Nat.mul_one, List.drop_zero, bCells_len, bCells_drop, bCells_take, bCells_app, bCells_one, bCells_plain, List.length_replicate, List.length_append, List.length_take, List.length_drop, List.take_length, and_true, true_and, and_self, decide_true, List.length_nil, List.length_cons, Nat.sub_zero, dB_mk, dB_ro, List.take_zero, z_smZ, z_kpZ, fPl]
  have sz := sz_mk g.l g.j false (.cells true) k h1
  rw [sz, wr64_id g3]
  refine br_if (fun h => ⟨⟨g.l, g.j, rfl, h1, g1, g2⟩, ?_⟩) (fun h => ⟨(), ?_⟩)
  · obtain ⟨i, rfl⟩ : ∃ i, k = i + 1 := ⟨k - 1, by omega⟩
    have w : IntKind.i64.wrap (((i + 1 : Nat) : Int) - 1) = (i : Int) := by rw [wr64_id (by unfold I64; omega)]; omega
    simp only [w]
    refine br_if (fun q => br_dec (by omega) (br_dec (by omega) ⟨i, ⟨by omega, ?_⟩, by omega, by omega⟩)) (fun q => ⟨(), ?_⟩)
    · rw [← h2, kpN, if_pos q]
    · rw [← h2, kpN, if_neg q]
  · have : k = 0 := by omega
    rw [← h2, this]; rfl
theorem Ft_con (l j : List Fl) (m room : Int) (h1 : l.length ≤ 16777216) (h2 : smN l ≤ 1000000000) (h3 : I64 (m - room)) : ConM Try.prog 37 [.pointer (some ⟨0, 0, none⟩), .int .i64 room] [rtC l.length m 1, gOwn enF (l ++ j)] (.tuple #[]) 2 [(0, rtC (kpN l (m - room) l.length) m 1), (1, gOwn enF (l ++ j))] := by
  refine conM_vc (E := EtR1) mixed (calls_envT tR1_ok) (lok_envT _ _) (M := mFt) (lm_one Ft_piece) (Ft_vc l j m room _) ?_
  simp only [ofNat_eq, toNat_cast, Nat.zero_add, Nat.add_zero, Nat.mul_one, List.drop_zero, bCells_len, bCells_drop, bCells_take, bCells_app, bCells_one, bCells_plain, List.length_replicate, List.length_append, List.length_take, List.length_drop, List.take_length, and_true, true_and, and_self, decide_true, List.length_nil, List.length_cons, Nat.sub_zero, dB_mk, dB_ro, List.take_zero, z_kpZ, fPl]
  exact ⟨⟨l, j, m, room⟩, ⟨h1, h2, h3⟩, rfl, rfl, rfl, rfl, fun _ _ => ⟨rfl, rfl, rfl⟩⟩
theorem eFit_ok : EntOk Try.prog eFit := by
  intro a rows p v n' rl he hp
  simp only [eFit] at he
  split at he
  · simp only [Option.some.injEq, Prod.mk.injEq] at he
    obtain ⟨rfl, rfl, rfl, rfl⟩ := he
    obtain ⟨⟨l, j, rfl, rfl, _, h1, h2⟩, h3⟩ := hp
    rw [(sh_mk l j _).1]
    exact Ft_con l j _ _ h1 h2 h3
  · simp at he
theorem tR2_ok : ∀ x ∈ tR2, EntOk Try.prog x := all_cons eFbR_ok (all_cons eFit_ok (all_nil))
theorem AdR_con (t : Tb) (f : Fl) (h1 : t.l.length ≤ 16777215) (h2 : smN t.l ≤ 500000000) (h3 : fbN f ≤ 100000000) (h4 : 0 ≤ t.most) (h5 : t.most ≤ 100000000) : ConM Try.prog 40 [.pointer (some ⟨0, 0, none⟩), .agg ⟨[.string (bs f.n), .string (bs f.v)]⟩] [rtC t.l.length t.most 1, gOwn enF (t.l ++ t.j)] (.tuple #[]) 3 [(0, rtC (addT t f).l.length (addT t f).most 2), (2, gOwn enF ((addT t f).l ++ (addT t f).j))] := by
  refine conM_vc (E := EtR2) mixed (calls_envT tR2_ok) (lok_envT _ _) (M := noM) lm_none (AdR_vc t _ f.n f.v) ?_
  have hf : fbN ⟨L (bs f.n), L (bs f.v)⟩ = fbN f := rfl
  obtain ⟨s1, s2⟩ := sh_mk t.l t.j (t.most - ((fbN f : Nat) : Int))
  have hk := kpN_le t.l (t.most - ((fbN f : Nat) : Int)) t.l.length
  have sz := sz_mk t.l t.j false (.cells true) t.l.length (Nat.le_refl _)
  unfold gOwn at s1 s2
  simp only [ofNat_eq, toNat_cast, Nat.zero_add, Nat.add_zero, Nat.mul_one, List.drop_zero, bCells_len, bCells_drop, bCells_take, bCells_app, bCells_one, bCells_plain, List.length_replicate, List.length_append, List.length_take, List.length_drop, List.take_length, and_true, true_and, and_self, decide_true, List.length_nil, List.length_cons, Nat.sub_zero, dB_mk, dB_ro, List.take_zero, z_fbZ, hf, s1, s2, sz, addT_m, fPl]
  generalize hkk : kpN t.l (t.most - ((fbN f : Nat) : Int)) t.l.length = k at *
  refine ⟨by omega, ⟨⟨t.l, t.j, rfl, rfl, rfl, by omega, by omega⟩, by unfold I64; omega⟩, by omega, br_if (fun h => ?_) (fun h => ?_)⟩
  · have e : addT t f = ⟨f :: t.l.take k, [], t.most⟩ := by unfold addT; rw [if_neg (by omega), hkk]
    have tk : List.take (k * 2) (gC enF (t.l ++ t.j)) = gC enF (t.l.take k) := by
      rw [gC_take enF_k, List.take_append_of_le_length hk]
    rw [e, tk]
    refine br_dec (by rw [fLen, List.length_append]; omega) (br_b (fOne _) (br_dec (by omega) ⟨by simp only [List.length_cons, List.length_take]; omega, ?_⟩))
    simp only [List.append_nil]; rfl
  · have e : addT t f = ⟨t.l.take k, t.l.drop k ++ t.j, t.most⟩ := by unfold addT; rw [if_pos (by omega), hkk]
    rw [e]
    refine ⟨by simp only; rw [List.length_take]; omega, ?_⟩
    simp only; rw [← List.append_assoc, List.take_append_drop]
theorem RsR_con (t : Tb) (n : Int) (h1 : t.l.length ≤ 16777216) (h2 : smN t.l ≤ 1000000000) : ConM Try.prog 26 [.pointer (some ⟨0, 0, none⟩), .int .i64 n] [rtC t.l.length t.most 1, gOwn enF (t.l ++ t.j)] (.int .i64 (rsE n)) 3 [(0, rtC (rsT t n).l.length (rsT t n).most 2), (2, gOwn enF ((rsT t n).l ++ (rsT t n).j))] := by
  refine conM_vc (E := EtR2) mixed (calls_envT tR2_ok) (lok_envT _ _) (M := noM) lm_none (RsR_vc t _ n _) ?_
  obtain ⟨s1, s2⟩ := sh_mk t.l t.j n
  have hk := kpN_le t.l n t.l.length
  have sz := sz_mk t.l t.j false (.cells true) t.l.length (Nat.le_refl _)
  unfold gOwn at s1 s2
  simp only [ofNat_eq, toNat_cast, Nat.zero_add, Nat.add_zero, Nat.mul_one, List.drop_zero, bCells_len, bCells_drop, bCells_take, bCells_app, bCells_one, bCells_plain, List.length_replicate, List.length_append, List.length_take, List.length_drop, List.take_length, and_true, true_and, and_self, decide_true, List.length_nil, List.length_cons, Nat.sub_zero, dB_mk, dB_ro, List.take_zero, Int.sub_zero, s1, s2, sz, fPl]
  have bad : (n < 0 ∨ n > 65536) → rsE n = 1 ∧ rsT t n = t := fun h => ⟨if_pos h, if_pos h⟩
  refine br_if (fun h => ?_) (fun h => br_if (fun h' => ?_) (fun h' => ?_))
  · obtain ⟨e1, e2⟩ := bad (.inl h)
    rw [e1, e2]; exact ⟨rfl, rfl, rfl, rfl⟩
  · obtain ⟨e1, e2⟩ := bad (.inr h')
    rw [e1, e2]; exact ⟨rfl, rfl, rfl, rfl⟩
  · have e1 : rsE n = 0 := if_neg (by omega)
    have e2 : rsT t n = ⟨t.l.take (kpN t.l n t.l.length), t.l.drop (kpN t.l n t.l.length) ++ t.j, n⟩ := if_neg (by omega)
    rw [e1, e2]
    refine ⟨⟨⟨t.l, t.j, rfl, rfl, rfl, by omega, by omega⟩, by unfold I64; omega⟩, rfl, by simp only; rw [List.length_take]; omega, rfl, ?_⟩
    simp only; rw [← List.append_assoc, List.take_append_drop]
end Go.Proofs.Ytellbmbklfbbfaa.tb
