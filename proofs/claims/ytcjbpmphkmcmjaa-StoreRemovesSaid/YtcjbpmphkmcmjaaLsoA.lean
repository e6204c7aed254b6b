/- The store: keys, costs, copies. -/
import Derived.Test.YtcjbpmphkmcmjaaSz9
import Derived.Test.YtcjbpmphkmcmjaaRows
import Derived.Test.YtcjbpmphkmcmjaaLsoM
import Derived.Test.YtcjbpmphkmcmjaaLcpO2
set_option maxRecDepth 20000
set_option linter.unusedSimpArgs false
set_option linter.unusedVariables false
namespace Go.Proofs.Ytcjbpmphkmcmjaa.so
open Go Go.Ev Go.Sy Go.RowKit Go.Proofs.Ytcjbpmphkmcmjaa.gl Go.Proofs.Ytcjbpmphkmcmjaa.tk Go.Proofs.Ytcjbpmphkmcmjaa.cp
def sepB : ByteArray := bs [58, 47, 47]
noncomputable def keyV : ByteArray → ByteArray → ByteArray → ByteArray := sealV fun s a p => s ++ sepB ++ a ++ p
def fbN (f : Fl) : Nat := f.n.length + f.v.length
def smN (l : List Fl) : Nat := (l.map fbN).sum
noncomputable def smR : Row → Int := sealV fun r => ((smN (decF r.cells) : Nat) : Int)
def FOk (l : List Fl) : Prop := l.length ≤ 16777216 ∧ smN l ≤ 1000000000
def FOkR (r : Row) : Prop := FOk (decF r.cells)
def cosL (s a p b : ByteArray) (e r : List Fl) : Int := 100 + ((L s).length + 3 + (L a).length + (L p).length : Nat) + (smN e : Nat) + (smN r : Nat) + ((L b).length : Nat)
noncomputable def cosR : ByteArray → ByteArray → ByteArray → ByteArray → Row → Row → Int := sealV fun s a p b r0 r1 => cosL s a p b (decF r0.cells) (decF r1.cells)
def TOk (s : ByteArray) : Prop := (L s).length ≤ 1048576
structure GSb where
  l : List Fl
def pSb : List Nat := [0, 1, 0, 1, 1]
def slSb (g : GSb) (i : Nat) : List (Nat × Value) := [(3, .int .i64 (smN (g.l.take i) : Nat)), (6, .slice (some ⟨0, 0, none⟩) g.l.length 2), (7, .int .i64 (g.l.length : Nat)), (8, .int .i64 (i : Nat))]
def rlSb (g : GSb) : List (Nat × Row) := [(0, gRo enF g.l)]
def wsSb (g : GSb) : List (Gate Unit) := [⟨.exit 0, fun _ => True, fun _ => [(3, .int .i64 (smN g.l : Nat))], fun _ => rlSb g, 1⟩]
def specSb : Sy.Spec := specOf 1 1 23 (fun g : GSb => FOk g.l) (fun g => slSb g 0) rlSb wsSb
def mSb := mOf [(39, pSb, specSb)]
noncomputable def eKy : EntM := entC 31 fun a r => match a, r with
  | [.agg ⟨[.string m, .string s, .string a, .string p, .slice (some ⟨0, 0, none⟩) n 2, .int .i64 k]⟩], [r0] => some (TOk s ∧ TOk a ∧ TOk p ∧ IsF r0 n, .string (keyV s a p), [])
  | _, _ => none
noncomputable def eBy : EntM := entC 39 fun a r => match a, r with
  | [.slice (some ⟨0, 0, none⟩) n 2], [r0] => some (IsF r0 n ∧ FOkR r0, .int .i64 (smR r0), [])
  | _, _ => none
noncomputable def tCs : List EntM := [eKy, eBy]
noncomputable abbrev ECs : Env := envT Try.prog tCs
noncomputable def eCs : EntM := entC 15 fun a r => match a, r with
  | [.agg ⟨[.string m, .string s, .string a, .string p, .slice (some ⟨0, 0, none⟩) n0 2, .int .i64 k, .int .i64 st, .slice (some ⟨1, 0, none⟩) n1 2, .int .i64 k2, .string b, .int .i64 t1, .int .i64 t2]⟩], [r0, r1] => some (TOk s ∧ TOk a ∧ TOk p ∧ TOk b ∧ IsF r0 n0 ∧ IsF r1 n1 ∧ FOkR r0 ∧ FOkR r1, .int .i64 (cosR s a p b r0 r1), [])
  | _, _ => none
noncomputable def eCp : EntM := entC 37 fun a r => match a, r with
  | [.agg ⟨[.string m, .string s, .string a, .string p, .slice (some ⟨0, 0, none⟩) n0 2, .int .i64 k, .int .i64 st, .slice (some ⟨1, 0, none⟩) n1 2, .int .i64 k2, .string b, .int .i64 t1, .int .i64 t2]⟩], [r0, r1] => some (IsF r0 n0 ∧ IsF r1 n1 ∧ FOkR r0 ∧ FOkR r1, .agg ⟨[.string m, .string s, .string a, .string p, .slice (some ⟨2, 0, none⟩) n0 2, .int .i64 k, .int .i64 st, .slice (some ⟨3, 0, none⟩) n1 2, .int .i64 k2, .string b, .int .i64 t1, .int .i64 t2]⟩, [⟨r0.cells, false, .cells true⟩, ⟨r1.cells, false, .cells true⟩])
  | _, _ => none
theorem Kf_vc (y : RqX) (q : List Fl) (K : ByteArray) : mcall E0 noM 60 31 [.agg ⟨rqCells y 0 q.length⟩] ⟨mkR (nums 0 [gRo enF q]), 1⟩ (retIs 1 (.string K) [gRo enF q]) =
  (br (decide (List.length y.2.1.1 + 3 <= 9223372036854775807)) (br (decide (List.length (y.2.1.1 ++ [58, 47, 47]) + List.length y.3.1.1 <= 9223372036854775807)) (br (decide
  (List.length (y.2.1.1 ++ [58, 47, 47] ++ y.3.1.1) + List.length y.4.1.1 <= 9223372036854775807)) ((K = y.2 ++ ByteArray.mk #[58, 47, 47] ++ y.3 ++ y.4) /\ ((Eq (α := List
  Value) (gC enF q) (gC enF q)) /\ ((Plain (gC enF q)) /\ True))) False) False) False) := by kernel_rfl
theorem Sb_round (g : GSb) (i : Nat) (Inv : Nat → Prop) (m : Nat → Nat) : mev E0 noM 60 39 (0 :: pSb) false (codeOf Try.prog 39 (0 :: pSb)) ⟨mkOv (slSb g i), 23, []⟩ none ⟨mkR (rlSb g), 1⟩ (roundK 1 1 23 Inv m (slSb g) (fun _ => rlSb g) (wsSb g) i) =
  let z1 := ((Eq (α := List Value) (gC enF g.1) (gC enF g.1)) /\ ((Plain (gC enF g.1)) /\ True)); let z2 := (cellS (gC enF g.1) (0 + Int.toNat (↑i : Int) * 2 + 1)); let z3
  := (cellS (gC enF g.1) (0 + Int.toNat (↑i : Int) * 2)); (br (decide ((↑i : Int) < (↑(List.length g.1) : Int))) (br (decide ((0 : Int) <= (↑i : Int) /\ (↑i : Int) <
  (↑(List.length g.1) : Int))) ((Eq (α := Option Value) ((gC enF g.1)[0 + Int.toNat (↑i : Int) * 2]?) (some (Value.string z3))) /\ ((Eq (α := Option Value) ((gC enF g.1)[0 +
  Int.toNat (↑i : Int) * 2 + 1]?) (some (Value.string z2))) /\ (∃ j : Nat, ((Inv j) /\ ((m j < m i) /\ (((↑(smN (List.take j g.1)) : Int) = IntKind.wrap IntKind.i64 ((↑(smN
  (List.take i g.1)) : Int) + IntKind.wrap IntKind.i64 (Int.ofNat (List.length (Array.toList (ByteArray.data z3))) + Int.ofNat (List.length (Array.toList (ByteArray.data
  z2)))))) /\ ((0 = 0) /\ ((List.length g.1 = List.length g.1) /\ (((↑(List.length g.1) : Int) = (↑(List.length g.1) : Int)) /\ (((↑j : Int) = IntKind.wrap IntKind.i64 ((↑i
  : Int) + (1 : Int))) /\ z1)))))))))) False) (∃ y : Unit, ((True) /\ (((↑(smN g.1) : Int) = (↑(smN (List.take i g.1)) : Int)) /\ z1)))) := by kernel_rfl
theorem Sb_vc (l : List Fl) (N : Int) : mcall E0 mSb 60 39 [.slice (some ⟨0, 0, none⟩) l.length 2] ⟨mkR (nums 0 [gRo enF l]), 1⟩ (retIs 1 (.int .i64 N) [gRo enF l]) =
  (∃ g : GSb, ((FOk g.1) /\ (((↑(smN []) : Int) = (0 : Int)) /\ ((0 = 0) /\ ((List.length g.1 = List.length l) /\ (((↑(List.length g.1) : Int) = Int.ofNat (List.length l))
  /\ (((0 : Int) = (0 : Int)) /\ ((Eq (α := List Value) (gC enF g.1) (gC enF l)) /\ ((Plain (gC enF g.1)) /\ (∀ (y : Unit), ((True) → ((N = (↑(smN g.1) : Int)) /\ ((Eq (α :=
  List Value) (gC enF l) (gC enF g.1)) /\ ((Plain (gC enF l)) /\ True)))))))))))))) := by kernel_rfl
theorem Cs_vc (x : EnX) (e r : List Fl) (N : Int) : mcall ECs noM 60 15 [.agg ⟨enCells x 0 e.length 1 r.length⟩] ⟨mkR (nums 0 [gRo enF e, gRo enF r]), 2⟩ (retIs 2 (.int .i64 N) [gRo enF e, gRo enF r]) =
  let z1 := (List.take (List.length e * 2) (List.drop 0 (gC enF e))); let z2 := (Value.slice (some (Addr.mk 1 0 none)) (List.length r) 2 = Value.slice (some (Addr.mk 1 0
  none)) (List.length r) 2); let z3 := (Array.mk [Value.string x.1, Value.string x.2, Value.string x.3, Value.string x.4, Value.slice (some (Addr.mk 0 0 none)) (List.length
  e) 2, Value.int IntKind.i64 x.5]); let z4 := (Row.mk (List.take (List.length r * 2) (List.drop 0 (gC enF r))) true (Ob.cells true)); let z5 := (Value.slice (some (Addr.mk
  0 0 none)) (List.length e) 2 = Value.slice (some (Addr.mk 0 0 none)) (List.length e) 2); let z6 := (0 + List.length e * 2 <= List.length (gC enF e) /\ Plain z1); (((((True
  /\ (True /\ (True /\ (True /\ (z6 /\ (True /\ True)))))) /\ True) /\ ((True /\ True) /\ (True /\ (TOk x.2 /\ (TOk x.3 /\ (TOk x.4 /\ IsF (Row.mk z1 true (Ob.cells true))
  (List.length e)))))))) /\ ((((z6 /\ True) /\ ((True /\ True) /\ (True /\ (IsF (Row.mk z1 true (Ob.cells true)) (List.length e) /\ FOkR (Row.mk z1 true (Ob.cells
  true))))))) /\ (((((0 + List.length r * 2 <= List.length (gC enF r) /\ Plain (List.take (List.length r * 2) (List.drop 0 (gC enF r)))) /\ True) /\ ((True /\ True) /\ (True
  /\ (IsF z4 (List.length r) /\ FOkR z4))))) /\ ((Value.agg z3 = Value.agg z3) /\ (z5 /\ (z5 /\ (z2 /\ (z2 /\ (z2 /\ ((Value.string x.8 = Value.string x.8) /\ ((Value.string
  x.8 = Value.string x.8) /\ ((Value.string x.8 = Value.string x.8) /\ ((Value.string x.8 = Value.string x.8) /\ ((N = IntKind.wrap IntKind.i64 (IntKind.wrap IntKind.i64
  (IntKind.wrap IntKind.i64 (IntKind.wrap IntKind.i64 ((100 : Int) + Int.ofNat (List.length (Array.toList (ByteArray.data (keyV x.2 x.3 x.4))))) + smR (Row.mk z1 true
  (Ob.cells true))) + smR z4) + Int.ofNat (List.length x.8.1.1))) /\ ((Eq (α := List Value) (gC enF e) (gC enF e)) /\ ((Plain (gC enF e)) /\ ((Eq (α := List Value) (gC enF
  r) (gC enF r)) /\ ((Plain (gC enF r)) /\ True)))))))))))))))))) := by kernel_rfl
theorem Cp_vc (x : EnX) (e r : List Fl) : mcall E0 noM 60 37 [.agg ⟨enCells x 0 e.length 1 r.length⟩] ⟨mkR (nums 0 [gRo enF e, gRo enF r]), 2⟩ (retIs 2 (.agg ⟨enCells x 2 e.length 3 r.length⟩) [gRo enF e, gRo enF r, gOwn enF e, gOwn enF r]) =
  let z1 := (List.take (List.length e * 2) (List.drop 0 (gC enF e))); let z2 := (List.take (List.length r * 2) (List.drop 0 (gC enF r))); (br (decide (0 + List.length e * 2
  <= List.length (gC enF e))) (br (allOne z1) (br (decide (List.length e <= 16777216)) (br (decide (0 + List.length r * 2 <= List.length (gC enF r))) (br (allOne z2) (br
  (decide (List.length r <= 16777216)) ((x.1 = x.1) /\ ((x.2 = x.2) /\ ((x.3 = x.3) /\ ((x.4 = x.4) /\ ((0 = 0) /\ ((List.length e = List.length e) /\ ((x.5 = x.5) /\ ((x.6
  = x.6) /\ ((0 = 0) /\ ((List.length r = List.length r) /\ ((x.7 = x.7) /\ ((x.8 = x.8) /\ ((x.9 = x.9) /\ ((x.10 = x.10) /\ ((Eq (α := List Value) (gC enF e) (gC enF e))
  /\ ((Plain (gC enF e)) /\ ((Eq (α := List Value) (gC enF r) (gC enF r)) /\ ((Plain (gC enF r)) /\ ((Eq (α := List Value) (gC enF e) z1) /\ ((Plain (gC enF e)) /\ ((Eq (α
  := List Value) (gC enF r) z2) /\ ((Plain (gC enF r)) /\ True)))))))))))))))))))))) False) False) False) False) False) False) := by kernel_rfl
theorem z_key (s a p : ByteArray) : keyV s a p = s ++ sepB ++ a ++ p := by unfold keyV; rw [sealV_eq]
theorem z_sm (l : List Fl) (b : Bool) (o : Ob) : smR ⟨gC enF l, b, o⟩ = ((smN l : Nat) : Int) := by unfold smR; rw [sealV_eq]; simp only [decF_gC]
theorem z_cos (s a p b : ByteArray) (e r : List Fl) (b1 b2 : Bool) (o1 o2 : Ob) : cosR s a p b ⟨gC enF e, b1, o1⟩ ⟨gC enF r, b2, o2⟩ = cosL s a p b e r := by unfold cosR; rw [sealV_eq]; simp only [decF_gC]
theorem fokR (l : List Fl) (b : Bool) (o : Ob) : FOkR ⟨gC enF l, b, o⟩ = FOk l := by unfold FOkR; simp only [decF_gC]
theorem keyLen (s a p : ByteArray) : (L (keyV s a p)).length = (L s).length + 3 + (L a).length + (L p).length := by
  rw [z_key]
  obtain ⟨s, rfl⟩ : ∃ l, s = bs l := ⟨L s, rfl⟩
  obtain ⟨a, rfl⟩ : ∃ l, a = bs l := ⟨L a, rfl⟩
  obtain ⟨p, rfl⟩ : ∃ l, p = bs l := ⟨L p, rfl⟩
  unfold sepB
  rw [bs_app, bs_app, bs_app]
  simp only [L_bs, List.length_append, List.length_cons, List.length_nil]
theorem Kf_con (y : RqX) (q : List Fl) (h1 : TOk y.s) (h2 : TOk y.a) (h3 : TOk y.p) : Con Try.prog 31 [.agg ⟨rqCells y 0 q.length⟩] [gRo enF q] (.string (keyV y.s y.a y.p)) [gRo enF q] := by
  refine con_vc (E := E0) mixed (calls_envN _) (lok_envN _) (M := noM) lm_none (Kf_vc y q _) ?_
  unfold TOk L at h1 h2 h3
  simp only [List.length_append, List.length_cons, List.length_nil]
  exact br_dec (by omega) (br_dec (by omega) (br_dec (by omega) ⟨z_key _ _ _, trivial, fPl _, trivial⟩))
theorem eKy_ok : EntOk Try.prog eKy := entC_ok (by
  intro a rows p v news h hp
  split at h <;> simp only [Option.some.injEq, Prod.mk.injEq, reduceCtorEq] at h
  obtain ⟨rfl, rfl, rfl⟩ := h
  rename_i m s a p n k r0
  obtain ⟨h1, h2, h3, ⟨l, rfl, rfl⟩⟩ := hp
  rw [List.append_nil]
  exact Kf_con ⟨m, s, a, p, k⟩ l h1 h2 h3)
theorem smN_take (l : List Fl) (k : Nat) (h : k < l.length) : smN (l.take (k + 1)) = smN (l.take k) + fbN l[k] := by
  unfold smN
  rw [List.take_add_one, List.getElem?_eq_getElem h, List.map_append, List.sum_append]; simp
theorem smN_le (l : List Fl) : ∀ k, smN (l.take k) ≤ smN l := by
  intro k
  have : smN l = smN (l.take k) + smN (l.drop k) := by
    unfold smN
    rw [← List.sum_append, ← List.map_append, List.take_append_drop]
  omega
theorem Sb_piece : PieceOk E0 1 (39, pSb, specSb) := by
  refine piece_loop mixed (calls_envN _) (lok_envN _) lm_none (n := 60) (by kernel_rfl) (fun _ : GSb => (0 : Nat)) (fun g i => i ≤ g.l.length) (fun g i => g.l.length - i) (sl := slSb) (rl := fun g _ => rlSb g) (fun g hg => Nat.zero_le _) (fun g i hg hi => ?_)
  refine (Sb_round g i _ _).mpr ?_
  obtain ⟨l⟩ := g
  obtain ⟨g1, g2⟩ := hg
  simp only at hi g1 g2
  simp only [ofNat_eq, toNat_cast, Nat.zero_add, Nat.add_zero, Nat.mul_one, List.drop_zero, bCells_len, bCells_drop, bCells_take, bCells_app, bCells_one, bCells_plain, List.length_replicate, List.length_append, List.length_take, List.length_drop, List.take_length, and_true, true_and, and_self, decide_true, List.length_nil, List.length_cons, Nat.sub_zero, dB_mk, dB_ro, List.take_zero, fPl, fLen]
  refine br_if (fun h => br_dec (by omega) ?_) (fun h => ?_)
  · have hi : i < l.length := by omega
    obtain ⟨c1, c2, c3, c4⟩ := fGet l i hi
    have hs := smN_take l i hi
    have hle := smN_le l (i + 1)
    have hb : fbN l[i] = l[i].n.length + l[i].v.length := rfl
    have w := i64_succ (show i < 9223372036854775807 by omega)
    simp only [Int.toNat_natCast, c1, c2, c3, c4, w, true_and]
    refine ⟨i + 1, by omega, by omega, ?_, rfl⟩
    show ((smN (l.take (i + 1)) : Nat) : Int) = IntKind.i64.wrap (((smN (l.take i) : Nat) : Int) + IntKind.i64.wrap ((l[i].n.length : Int) + (l[i].v.length : Int)))
    rw [wr64_id (n := (l[i].n.length : Int) + (l[i].v.length : Int)) (by unfold I64; omega), wr64_id (by unfold I64; omega)]
    omega
  · have e : l.take i = l := List.take_of_length_le (by omega)
    exact ⟨(), by rw [e]⟩
theorem Sb_con (l : List Fl) (h : FOk l) : Con Try.prog 39 [.slice (some ⟨0, 0, none⟩) l.length 2] [gRo enF l] (.int .i64 (smN l : Nat)) [gRo enF l] := by
  refine con_vc (E := E0) mixed (calls_envN _) (lok_envN _) (M := mSb) (lm_one Sb_piece) (Sb_vc l _) ?_
  exact ⟨⟨l⟩, h, rfl, rfl, rfl, rfl, rfl, rfl, fPl _, fun _ _ => ⟨rfl, rfl, fPl _, trivial⟩⟩
theorem eBy_ok : EntOk Try.prog eBy := entC_ok (by
  intro a rows p v news h hp
  split at h <;> simp only [Option.some.injEq, Prod.mk.injEq, reduceCtorEq] at h
  obtain ⟨rfl, rfl, rfl⟩ := h
  obtain ⟨⟨l, rfl, rfl⟩, h⟩ := hp
  rw [List.append_nil]
  rw [show FOkR (gRo enF l) = FOk l from fokR l _ _] at h
  rw [show smR (gRo enF l) = ((smN l : Nat) : Int) from z_sm l _ _]
  exact Sb_con l h)
theorem tCs_ok : ∀ x ∈ tCs, EntOk Try.prog x := all_cons eKy_ok (all_cons eBy_ok all_nil)
theorem Cs_con (x : EnX) (e r : List Fl) (h1 : TOk x.s) (h2 : TOk x.a) (h3 : TOk x.p) (h4 : TOk x.body) (he : FOk e) (hr : FOk r) : Con Try.prog 15 [.agg ⟨enCells x 0 e.length 1 r.length⟩] [gRo enF e, gRo enF r] (.int .i64 (cosL x.s x.a x.p x.body e r)) [gRo enF e, gRo enF r] := by
  refine con_vc (E := ECs) mixed (calls_envT tCs_ok) (lok_envT _ _) (M := noM) lm_none (Cs_vc x e r _) ?_
  have k1 := keyLen x.s x.a x.p
  have e1 : ∀ s : ByteArray, Array.toList (ByteArray.data s) = L s := fun _ => rfl
  have i1 : IsF ⟨gC enF e, true, .cells true⟩ e.length := isF_mk _ _ rfl
  have i2 : IsF ⟨gC enF r, true, .cells true⟩ r.length := isF_mk _ _ rfl
  simp only [ofNat_eq, toNat_cast, Nat.zero_add, Nat.add_zero, Nat.mul_one, List.drop_zero, bCells_len, bCells_drop, bCells_take, bCells_app, bCells_one, bCells_plain, List.length_replicate, List.length_append, List.length_take, List.length_drop, List.take_length, and_true, true_and, and_self, decide_true, List.length_nil, List.length_cons, Nat.sub_zero, dB_mk, dB_ro, List.take_zero, fPl, fLen, fTake, e1, fokR, z_sm, i1, i2, h1, h2, h3, he, hr]
  obtain ⟨a1, a2⟩ := he
  obtain ⟨b1, b2⟩ := hr
  unfold TOk at h1 h2 h3 h4
  have q1 : IntKind.i64.wrap (100 + ((L (keyV x.s x.a x.p)).length : Int)) = 100 + ((L (keyV x.s x.a x.p)).length : Int) := wr64_id (by unfold I64; omega)
  have q2 : IntKind.i64.wrap (100 + ((L (keyV x.s x.a x.p)).length : Int) + ((smN e : Nat) : Int)) = 100 + ((L (keyV x.s x.a x.p)).length : Int) + ((smN e : Nat) : Int) := wr64_id (by unfold I64; omega)
  have q3 : IntKind.i64.wrap (100 + ((L (keyV x.s x.a x.p)).length : Int) + ((smN e : Nat) : Int) + ((smN r : Nat) : Int)) = 100 + ((L (keyV x.s x.a x.p)).length : Int) + ((smN e : Nat) : Int) + ((smN r : Nat) : Int) := wr64_id (by unfold I64; omega)
  rw [q1, q2, q3, wr64_id (by unfold I64; omega)]
  refine ⟨Nat.le_refl _, Nat.le_refl _, Nat.le_refl _, ?_⟩
  unfold cosL
  rw [k1]
theorem Cp_con (x : EnX) (e r : List Fl) (he : FOk e) (hr : FOk r) : Con Try.prog 37 [.agg ⟨enCells x 0 e.length 1 r.length⟩] [gRo enF e, gRo enF r] (.agg ⟨enCells x 2 e.length 3 r.length⟩) [gRo enF e, gRo enF r, gOwn enF e, gOwn enF r] := by
  refine con_vc (E := E0) mixed (calls_envN _) (lok_envN _) (M := noM) lm_none (Cp_vc x e r) ?_
  obtain ⟨a1, a2⟩ := he
  obtain ⟨b1, b2⟩ := hr
  have one : ∀ l : List Fl, allOne (gC enF l) = true := fun l => gC_one (fun _ => rfl) l
  simp only [ofNat_eq, toNat_cast, Nat.zero_add, Nat.add_zero, Nat.mul_one, List.drop_zero, bCells_len, bCells_drop, bCells_take, bCells_app, bCells_one, bCells_plain, List.length_replicate, List.length_append, List.length_take, List.length_drop, List.take_length, and_true, true_and, and_self, decide_true, List.length_nil, List.length_cons, Nat.sub_zero, dB_mk, dB_ro, List.take_zero, fPl, fLen, fTake, one, Nat.le_refl]
  exact br_b rfl (br_b rfl (br_dec (by omega) (br_b rfl (br_b rfl (br_dec (by omega) trivial)))))
theorem eCs_ok : EntOk Try.prog eCs := entC_ok (by
  intro a rows p v news h hp
  split at h <;> simp only [Option.some.injEq, Prod.mk.injEq, reduceCtorEq] at h
  obtain ⟨rfl, rfl, rfl⟩ := h
  rename_i m s a p n0 k st n1 k2 b t1 t2 r0 r1
  obtain ⟨h1, h2, h3, h4, ⟨e, rfl, rfl⟩, ⟨r, rfl, rfl⟩, h5, h6⟩ := hp
  rw [List.append_nil]
  rw [show FOkR (gRo enF e) = FOk e from fokR e _ _] at h5
  rw [show FOkR (gRo enF r) = FOk r from fokR r _ _] at h6
  rw [show cosR s a p b (gRo enF e) (gRo enF r) = cosL s a p b e r from z_cos _ _ _ _ _ _ _ _ _ _]
  exact Cs_con ⟨m, s, a, p, k, st, k2, b, t1, t2⟩ e r h1 h2 h3 h4 h5 h6)
theorem eCp_ok : EntOk Try.prog eCp := entC_ok (by
  intro a rows p v news h hp
  split at h <;> simp only [Option.some.injEq, Prod.mk.injEq, reduceCtorEq] at h
  obtain ⟨rfl, rfl, rfl⟩ := h
  rename_i m s a p n0 k st n1 k2 b t1 t2 r0 r1
  obtain ⟨⟨e, rfl, rfl⟩, ⟨r, rfl, rfl⟩, h5, h6⟩ := hp
  rw [show FOkR (gRo enF e) = FOk e from fokR e _ _] at h5
  rw [show FOkR (gRo enF r) = FOk r from fokR r _ _] at h6
  exact Cp_con ⟨m, s, a, p, k, st, k2, b, t1, t2⟩ e r h5 h6)
end Go.Proofs.Ytcjbpmphkmcmjaa.so
