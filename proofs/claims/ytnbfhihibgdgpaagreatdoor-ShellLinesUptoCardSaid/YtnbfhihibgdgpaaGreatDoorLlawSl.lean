/- ShellLines: any step's line. -/
import Derived.Test.YtnbfhihibgdgpaaGreatDoorSz9
import Derived.Test.YtnbfhihibgdgpaaGreatDoorRows
import Derived.Test.YtnbfhihibgdgpaaGreatDoorLslH
import Derived.Test.YtnbfhihibgdgpaaGreatDoorLlawShr
set_option maxRecDepth 20000
set_option linter.unusedSimpArgs false
set_option linter.unusedVariables false
namespace Go.Proofs.YtnbfhihibgdgpaaGreatDoor.sl
open Go Go.Ev Go.Sy Go.RowKit Go.Proofs.YtnbfhihibgdgpaaGreatDoor.gl Go.Proofs.YtnbfhihibgdgpaaGreatDoor.tk Go.Proofs.YtnbfhihibgdgpaaGreatDoor.it Go.Proofs.YtnbfhihibgdgpaaGreatDoor.sn
noncomputable def lnZ : Int → Int → Int → Int → Row → ByteArray → Bool → ByteArray := sealV fun k a b c r t e => by
  classical exact if hh : ∃ l : List Rw, r.cells = gC enR l then bs (lineL ⟨k, a, b, c, Classical.choose hh, L t, e⟩) else ⟨#[]⟩
def noMin (n : Int) : Prop := n ≠ -9223372036854775808
def okL (a b c : Int) (r : Row) (n : Nat) (t : ByteArray) : Prop := IsRk r n ∧ n ≤ maxLen ∧ (I64 a ∧ I64 b ∧ I64 c) ∧ (noMin a ∧ noMin b ∧ noMin c) ∧ (L t).length ≤ 4000
noncomputable def eLn : EntM := entC 6 fun a r => match a, r with
  | [.agg ⟨[.int .i64 k, .int .i64 a, .int .i64 b, .int .i64 c, .slice (some ⟨0, 0, none⟩) n 3, .string t, .bool e]⟩], [r0] => some (okL a b c r0 n t, .string (lnZ k a b c r0 t e), [])
  | _, _ => none
noncomputable def eRn : EntM := entC 11 fun a r => match a, r with
  | [.agg ⟨[.int .i64 k, .int .i64 a, .int .i64 b, .int .i64 c, .slice (some ⟨0, 0, none⟩) n 3, .string t, .bool e]⟩], [r0] => some (okL a b c r0 n t, .string (lnZ k a b c r0 t e), [])
  | _, _ => none
noncomputable def eSh : EntM := entC 3 fun a r => match a, r with
  | [], [] => some (True, .bool true, [])
  | _, _ => none
noncomputable def tSl : List EntM := [eStp, eLn, eRn, eSh]
noncomputable abbrev EtSl : Env := envT Tryz.prog tSl
def pSl : List Nat := [0, 1, 0, 1, 1]
def slSl (g : GS) (i : Nat) : List (Nat × Value) := [(1, .pointer (some ⟨1, 0, none⟩)), (3, .int .i64 (i : Nat))]
noncomputable def rlSl (g : GS) : List (Nat × Row) := [(0, gRo enR g.l), (1, ⟨stpC g, false, .cells false⟩)]
noncomputable def wsSl (g : GS) : List (Gate Unit) := [⟨.exit 0, fun _ => ∀ r ∈ g.l, noMin r.h, fun _ => [(1, .pointer (some ⟨1, 0, none⟩))], fun _ => rlSl g, 2⟩, ⟨.ret, fun _ => True, fun _ => [(2, .bool true)], fun _ => [(0, gRo enR g.l)], 2⟩]
noncomputable def specSl : Sy.Spec := specOf 1 2 46 (fun g : GS => g.l.length ≤ maxLen) (fun g => slSl g 0) rlSl wsSl
noncomputable def mSl := mOf [(4, pSl, specSl)]
theorem Sl_round (g : GS) (i : Nat) (Inv : Nat → Prop) (m : Nat → Nat) : mev EtSl noM 60 4 (0 :: pSl) false (codeOf Tryz.prog 4 (0 :: pSl)) ⟨mkOv (slSl g i), 46, []⟩ none ⟨mkR (rlSl g), 2⟩ (roundK 1 2 46 Inv m (slSl g) (fun _ => rlSl g) (wsSl g) i) =
  (br (decide ((↑i : Int) < Int.ofNat (List.length g.5))) (br (decide ((0 : Int) <= (↑i : Int) /\ (↑i : Int) < (↑(List.length g.5) : Int))) ((Eq (α := Option Value) ((gC enR
  g.5)[0 + Int.toNat (↑i : Int) * 3 + 2]?) (some (Value.int IntKind.i64 (cellI (gC enR g.5) (0 + Int.toNat (↑i : Int) * 3 + 2))))) /\ (br (cellI (gC enR g.5) (0 + Int.toNat
  (↑i : Int) * 3 + 2) == (-9223372036854775808 : Int)) (((True /\ (True /\ (True /\ True)))) /\ (∃ y : Unit, ((True) /\ ((true = true) /\ ((Eq (α := List Value) (gC enR g.5)
  (gC enR g.5)) /\ ((Plain (gC enR g.5)) /\ True)))))) (∃ j : Nat, ((Inv j) /\ ((m j < m i) /\ ((0 = 0) /\ (((↑j : Int) = IntKind.wrap IntKind.i64 ((↑i : Int) + (1 : Int)))
  /\ ((Eq (α := List Value) (gC enR g.5) (gC enR g.5)) /\ ((Plain (gC enR g.5)) /\ ((g.1 = g.1) /\ ((g.2 = g.2) /\ ((g.3 = g.3) /\ ((g.4 = g.4) /\ ((0 = 0) /\ ((List.length
  g.5 = List.length g.5) /\ ((bs g.6 = bs g.6) /\ ((g.7 = g.7) /\ True))))))))))))))))) False) (∃ y : Unit, ((∀ (r : Rw), r ∈ GS.l g → noMin (Rw.h r)) /\ ((0 = 0) /\ ((Eq (α
  := List Value) (gC enR g.5) (gC enR g.5)) /\ ((Plain (gC enR g.5)) /\ ((g.1 = g.1) /\ ((g.2 = g.2) /\ ((g.3 = g.3) /\ ((g.4 = g.4) /\ ((0 = 0) /\ ((List.length g.5 =
  List.length g.5) /\ ((bs g.6 = bs g.6) /\ ((g.7 = g.7) /\ True)))))))))))))) := by kernel_rfl
theorem Sl_vc (g : GS) : mcall EtSl mSl 60 4 [.agg ⟨stpC g⟩] ⟨mkR (nums 0 [gRo enR g.l]), 1⟩ (retIs 1 (.bool true) [gRo enR g.l]) =
  (((((True /\ (True /\ (True /\ (True /\ ((0 + List.length g.5 * 3 <= List.length (gC enR g.5) /\ Plain (List.take (List.length g.5 * 3) (List.drop 0 (gC enR g.5)))) /\
  (True /\ (True /\ True))))))) /\ True) /\ ((True /\ True) /\ (True /\ (IsRw (Row.mk (List.take (List.length g.5 * 3) (List.drop 0 (gC enR g.5))) true (Ob.cells true))
  (List.length g.5) /\ List.length g.5 <= 9223372036854775807))))) /\ (br (!stZ (Row.mk (List.take (List.length g.5 * 3) (List.drop 0 (gC enR g.5))) true (Ob.cells true))
  (bs g.6)) (((True /\ (True /\ (True /\ True)))) /\ ((true = true) /\ ((Eq (α := List Value) (gC enR g.5) (gC enR g.5)) /\ ((Plain (gC enR g.5)) /\ True)))) (br (g.2 ==
  (-9223372036854775808 : Int)) (((True /\ (True /\ (True /\ True)))) /\ ((true = true) /\ ((Eq (α := List Value) (gC enR g.5) (gC enR g.5)) /\ ((Plain (gC enR g.5)) /\
  True)))) (br (g.3 == (-9223372036854775808 : Int)) (((True /\ (True /\ (True /\ True)))) /\ ((true = true) /\ ((Eq (α := List Value) (gC enR g.5) (gC enR g.5)) /\ ((Plain
  (gC enR g.5)) /\ True)))) (br (g.4 == (-9223372036854775808 : Int)) (((True /\ (True /\ (True /\ True)))) /\ ((true = true) /\ ((Eq (α := List Value) (gC enR g.5) (gC enR
  g.5)) /\ ((Plain (gC enR g.5)) /\ True)))) (∃ g2 : GS, ((List.length g2.5 <= 9223372036854775807) /\ ((0 = 0) /\ (((0 : Int) = (0 : Int)) /\ ((Eq (α := List Value) (gC enR
  g2.5) (gC enR g.5)) /\ ((Plain (gC enR g2.5)) /\ ((g2.1 = g.1) /\ ((g2.2 = g.2) /\ ((g2.3 = g.3) /\ ((g2.4 = g.4) /\ ((0 = 0) /\ ((List.length g2.5 = List.length g.5) /\
  ((bs g2.6 = bs g.6) /\ ((g2.7 = g.7) /\ (∀ (side : Bool), (br (side) (∀ (y : Unit), ((∀ (r : Rw), r ∈ GS.l g2 → noMin (Rw.h r)) → (((((True /\ (True /\ (True /\ (True /\
  ((0 + List.length g2.5 * 3 <= List.length (gC enR g2.5) /\ Plain (List.take (List.length g2.5 * 3) (List.drop 0 (gC enR g2.5)))) /\ (True /\ (True /\ True))))))) /\ True)
  /\ ((True /\ True) /\ (True /\ okL g2.2 g2.3 g2.4 (Row.mk (List.take (List.length g2.5 * 3) (List.drop 0 (gC enR g2.5))) true (Ob.cells true)) (List.length g2.5) (bs
  g2.6))))) /\ (((((True /\ (True /\ (True /\ (True /\ ((0 + List.length g2.5 * 3 <= List.length (gC enR g2.5) /\ Plain (List.take (List.length g2.5 * 3) (List.drop 0 (gC
  enR g2.5)))) /\ (True /\ (True /\ True))))))) /\ True) /\ ((True /\ True) /\ (True /\ okL g2.2 g2.3 g2.4 (Row.mk (List.take (List.length g2.5 * 3) (List.drop 0 (gC enR
  g2.5))) true (Ob.cells true)) (List.length g2.5) (bs g2.6))))) /\ (br (strEq (lnZ g2.1 g2.2 g2.3 g2.4 (Row.mk (List.take (List.length g2.5 * 3) (List.drop 0 (gC enR
  g2.5))) true (Ob.cells true)) (bs g2.6) g2.7) (lnZ g2.1 g2.2 g2.3 g2.4 (Row.mk (List.take (List.length g2.5 * 3) (List.drop 0 (gC enR g2.5))) true (Ob.cells true)) (bs
  g2.6) g2.7)) (((True /\ (True /\ (True /\ True)))) /\ ((Value.agg (Array.mk [Value.int IntKind.i64 g2.1, Value.int IntKind.i64 g2.2, Value.int IntKind.i64 g2.3, Value.int
  IntKind.i64 g2.4, Value.slice (some (Addr.mk 0 0 none)) (List.length g2.5) 3, Value.string (bs g2.6), Value.bool g2.7]) = Value.agg (Array.mk [Value.int IntKind.i64 g2.1,
  Value.int IntKind.i64 g2.2, Value.int IntKind.i64 g2.3, Value.int IntKind.i64 g2.4, Value.slice (some (Addr.mk 0 0 none)) (List.length g2.5) 3, Value.string (bs g2.6),
  Value.bool g2.7])) /\ ((Value.agg (Array.mk [Value.int IntKind.i64 g2.1, Value.int IntKind.i64 g2.2, Value.int IntKind.i64 g2.3, Value.int IntKind.i64 g2.4, Value.slice
  (some (Addr.mk 0 0 none)) (List.length g2.5) 3, Value.string (bs g2.6), Value.bool g2.7]) = Value.agg (Array.mk [Value.int IntKind.i64 g2.1, Value.int IntKind.i64 g2.2,
  Value.int IntKind.i64 g2.3, Value.int IntKind.i64 g2.4, Value.slice (some (Addr.mk 0 0 none)) (List.length g2.5) 3, Value.string (bs g2.6), Value.bool g2.7])) /\
  ((Value.agg (Array.mk [Value.int IntKind.i64 g2.1, Value.int IntKind.i64 g2.2, Value.int IntKind.i64 g2.3, Value.int IntKind.i64 g2.4, Value.slice (some (Addr.mk 0 0
  none)) (List.length g2.5) 3, Value.string (bs g2.6), Value.bool g2.7]) = Value.agg (Array.mk [Value.int IntKind.i64 g2.1, Value.int IntKind.i64 g2.2, Value.int IntKind.i64
  g2.3, Value.int IntKind.i64 g2.4, Value.slice (some (Addr.mk 0 0 none)) (List.length g2.5) 3, Value.string (bs g2.6), Value.bool g2.7])) /\ ((true = true) /\ ((Eq (α :=
  List Value) (gC enR g.5) (gC enR g2.5)) /\ ((Plain (gC enR g.5)) /\ True))))))) ((Value.agg (Array.mk [Value.int IntKind.i64 g2.1, Value.int IntKind.i64 g2.2, Value.int
  IntKind.i64 g2.3, Value.int IntKind.i64 g2.4, Value.slice (some (Addr.mk 0 0 none)) (List.length g2.5) 3, Value.string (bs g2.6), Value.bool g2.7]) = Value.agg (Array.mk
  [Value.int IntKind.i64 g2.1, Value.int IntKind.i64 g2.2, Value.int IntKind.i64 g2.3, Value.int IntKind.i64 g2.4, Value.slice (some (Addr.mk 0 0 none)) (List.length g2.5)
  3, Value.string (bs g2.6), Value.bool g2.7])) /\ ((Value.agg (Array.mk [Value.int IntKind.i64 g2.1, Value.int IntKind.i64 g2.2, Value.int IntKind.i64 g2.3, Value.int
  IntKind.i64 g2.4, Value.slice (some (Addr.mk 0 0 none)) (List.length g2.5) 3, Value.string (bs g2.6), Value.bool g2.7]) = Value.agg (Array.mk [Value.int IntKind.i64 g2.1,
  Value.int IntKind.i64 g2.2, Value.int IntKind.i64 g2.3, Value.int IntKind.i64 g2.4, Value.slice (some (Addr.mk 0 0 none)) (List.length g2.5) 3, Value.string (bs g2.6),
  Value.bool g2.7])) /\ ((Value.agg (Array.mk [Value.int IntKind.i64 g2.1, Value.int IntKind.i64 g2.2, Value.int IntKind.i64 g2.3, Value.int IntKind.i64 g2.4, Value.slice
  (some (Addr.mk 0 0 none)) (List.length g2.5) 3, Value.string (bs g2.6), Value.bool g2.7]) = Value.agg (Array.mk [Value.int IntKind.i64 g2.1, Value.int IntKind.i64 g2.2,
  Value.int IntKind.i64 g2.3, Value.int IntKind.i64 g2.4, Value.slice (some (Addr.mk 0 0 none)) (List.length g2.5) 3, Value.string (bs g2.6), Value.bool g2.7])) /\ ((true =
  false) /\ ((Eq (α := List Value) (gC enR g.5) (gC enR g2.5)) /\ ((Plain (gC enR g.5)) /\ True))))))))))) (∀ (y : Unit), ((True) → ((true = true) /\ ((Eq (α := List Value)
  (gC enR g.5) (gC enR g2.5)) /\ ((Plain (gC enR g.5)) /\ True)))))))))))))))))))))))))) := by kernel_rfl
theorem lnZ_eq (g : GS) : lnZ g.k g.a g.b g.c (gRo enR g.l) (bs g.t) g.e = bs (lineL g) := by
  have hex : ∃ m : List Rw, (gRo enR g.l).cells = gC enR m := ⟨g.l, rfl⟩
  have hm : gC enR g.l = gC enR (Classical.choose hex) := Classical.choose_spec hex
  unfold lnZ; rw [sealV_eq]
  refine (dif_pos hex).trans ?_
  rw [← gR_inj _ _ hm]; rfl
theorem both_ok (k a b c : Int) (n : Nat) (t : ByteArray) (e : Bool) (r0 : Row) (h : okL a b c r0 n t) :
    Con Tryz.prog 6 [.agg ⟨[.int .i64 k, .int .i64 a, .int .i64 b, .int .i64 c, .slice (some ⟨0, 0, none⟩) n 3, .string t, .bool e]⟩] [r0] (.string (lnZ k a b c r0 t e)) [r0] ∧
    Con Tryz.prog 11 [.agg ⟨[.int .i64 k, .int .i64 a, .int .i64 b, .int .i64 c, .slice (some ⟨0, 0, none⟩) n 3, .string t, .bool e]⟩] [r0] (.string (lnZ k a b c r0 t e)) [r0] := by
  obtain ⟨⟨l, rfl, rfl, ho, hs⟩, hl, ⟨ha, hb, hc⟩, ⟨na, nb, nc⟩, ht⟩ := h
  have e1 := lnZ_eq ⟨k, a, b, c, l, L t, e⟩
  simp only [eWo_arg] at e1
  rw [e1]
  exact both_con ⟨k, a, b, c, l, L t, e⟩ ⟨⟨ha, hb, hc, ht, hl, fun x hx => (ho x hx).1, hs⟩, na, nb, nc, fun x hx => (ho x hx).2⟩
theorem eLn_ok : EntOk Tryz.prog eLn := entC_ok (by
  intro a rows p v news h hp
  split at h <;> simp only [Option.some.injEq, Prod.mk.injEq, reduceCtorEq] at h
  obtain ⟨rfl, rfl, rfl⟩ := h
  exact (both_ok _ _ _ _ _ _ _ _ hp).1)
theorem eRn_ok : EntOk Tryz.prog eRn := entC_ok (by
  intro a rows p v news h hp
  split at h <;> simp only [Option.some.injEq, Prod.mk.injEq, reduceCtorEq] at h
  obtain ⟨rfl, rfl, rfl⟩ := h
  exact (both_ok _ _ _ _ _ _ _ _ hp).2)
theorem eSh_ok : EntOk Tryz.prog eSh := entC_ok (by
  intro a rows p v news h hp
  split at h <;> simp only [Option.some.injEq, Prod.mk.injEq, reduceCtorEq] at h
  obtain ⟨rfl, rfl, rfl⟩ := h
  exact Go.Proofs.YtnbfhihibgdgpaaGreatDoor.cr.shr_law)
theorem tSl_ok : ∀ x ∈ tSl, EntOk Tryz.prog x := all_cons eStp_ok (all_cons eLn_ok (all_cons eRn_ok (all_cons eSh_ok (all_nil))))
theorem st_sum : ∀ (l : List Rw) (n : Int), 0 ≤ n → n ≤ 2000000 → (∀ r ∈ l, I64 r.h ∧ r.n.length ≤ 1048576 ∧ r.v.length ≤ 1048576) → stS l n = true →
    n ≤ 4000 ∧ (∀ r ∈ l, okRw r) ∧ ((rwsL l).length : Int) ≤ 24 * (4000 - n)
  | [], n, _, _, _, h => by
    have : n ≤ 4000 := of_decide_eq_true h
    refine ⟨this, fun r hr => by simp at hr, ?_⟩
    simp only [rwsL, List.flatMap_nil, List.length_nil]; omega
  | w :: l, n, h0, h1, hb, h => by
    obtain ⟨b0, b1, b2⟩ := hb w (List.mem_cons_self ..)
    have ea : add3 w n = n + (w.n.length : Nat) + (w.v.length : Nat) + 1 := by
      unfold add3
      rw [wr64_id (n := n + (w.n.length : Nat)) (by unfold I64; omega), wr64_id (n := n + (w.n.length : Nat) + (w.v.length : Nat)) (by unfold I64; omega), wr64_id (by unfold I64; omega)]
    simp only [stS] at h
    by_cases hc : 4000 < add3 w n
    · rw [decide_eq_true hc] at h; simp at h
    · rw [decide_eq_false hc] at h
      simp only [cond_false] at h
      rw [ea] at hc h
      obtain ⟨c1, c2, c3⟩ := st_sum l _ (by omega) (by omega) (fun r hr => hb r (List.mem_cons_of_mem _ hr)) h
      have i1 := itoa_le _ b0
      have i2 := word_le w.n
      have i3 := word_le w.v
      have el : (rwsL (w :: l)).length = (rwL w).length + (rwsL l).length := by
        unfold rwsL; rw [List.flatMap_cons, List.length_append]
      have ew : (rwL w).length = 1 + (Lib.itoa w.h).length + 1 + (wordL w.n).length + 1 + (wordL w.v).length := by
        unfold rwL; simp only [List.length_append, List.length_cons, List.length_nil]
      refine ⟨by omega, fun r hr => ?_, by rw [el, ew]; omega⟩
      rcases List.mem_cons.1 hr with rfl | hr
      · exact ⟨b0, by omega, by omega⟩
      · exact c2 r hr
theorem stZ_eq (l : List Rw) (t : ByteArray) : stZ (gRo enR l) t = stS l ((L t).length : Nat) := by
  have hex : ∃ m : List Rw, (gRo enR l).cells = gC enR m := ⟨l, rfl⟩
  have hm : gC enR l = gC enR (Classical.choose hex) := Classical.choose_spec hex
  unfold stZ; rw [Go.Proofs.YtnbfhihibgdgpaaGreatDoor.sn.sealV_eq]
  refine (dif_pos hex).trans ?_
  rw [← gR_inj _ _ hm]
theorem Sl_piece : PieceOk EtSl 1 (4, pSl, specSl) := by
  refine piece_loop mixed (calls_envT tSl_ok) (lok_envT _ _) lm_none (n := 60) (by kernel_rfl) (fun _ => (0 : Nat)) (fun g i => i ≤ g.l.length ∧ ∀ r ∈ g.l.take i, noMin r.h) (fun g i => g.l.length - i) (sl := slSl) (rl := fun g _ => rlSl g) (fun g hg => ⟨Nat.zero_le _, fun r hr => by simp at hr⟩) (fun g i hg hi => ?_)
  refine (Sl_round g i _ _).mpr ?_
  have hg : g.l.length ≤ maxLen := hg
  unfold maxLen at hg
  obtain ⟨hi, hn⟩ := hi
  have pl := rPl g.l
  simp only [ofNat_eq, toNat_cast, Nat.zero_add, Nat.add_zero, Nat.mul_one, List.drop_zero, bCells_len, bCells_drop, bCells_take, bCells_app, bCells_one, bCells_plain, List.length_replicate, List.length_append, List.length_take, List.length_drop, List.take_length, and_true, true_and, and_self, decide_true, List.length_nil, List.length_cons, Nat.sub_zero, dB_mk, dB_ro, List.take_zero]
  refine br_if (fun h => br_dec (by omega) ?_) (fun h => ?_)
  · have h1 : i < g.l.length := by omega
    obtain ⟨_, _, c2, _, _, d2⟩ := rGet g.l i h1
    have w1 : IntKind.i64.wrap ((i : Int) + 1) = ((i + 1 : Nat) : Int) := by rw [wr64_id (by unfold I64; omega)]; omega
    rw [d2]
    refine ⟨c2, br_intro (fun _ => ⟨(), pl⟩) (fun he => ⟨i + 1, ⟨by omega, fun r hr => ?_⟩, by omega, w1.symm, pl⟩)⟩
    rw [List.take_succ_eq_append_getElem h1] at hr
    rcases List.mem_append.1 hr with hr | hr
    · exact hn r hr
    · rw [List.mem_singleton] at hr
      rw [hr]; unfold noMin; simpa using he
  · have : i = g.l.length := by omega
    subst this
    rw [List.take_length] at hn
    exact ⟨(), hn, pl⟩
theorem Sl_law (k a b c : Int) (l : List Rw) (t : ByteArray) (e : Bool) (_ : I64 k) (ha : I64 a) (hb : I64 b) (hc : I64 c) (hl : l.length ≤ 1048576) (wl : ∀ r ∈ l, I64 r.h ∧ r.n.length ≤ 1048576 ∧ r.v.length ≤ 1048576) (ht : t.size ≤ 1048576) :
    Con Tryz.prog 4 [.agg ⟨[.int .i64 k, .int .i64 a, .int .i64 b, .int .i64 c, .slice (some ⟨0, 0, none⟩) l.length 3, .string t, .bool e]⟩] [gRo enR l] (.bool true) [gRo enR l] := by
  refine con_vc (E := EtSl) mixed (calls_envT tSl_ok) (lok_envT _ _) (M := mSl) (lm_one Sl_piece) (Sl_vc ⟨k, a, b, c, l, L t, e⟩) ?_
  have pl := rPl l
  simp only [ofNat_eq, toNat_cast, Nat.zero_add, Nat.add_zero, Nat.mul_one, List.drop_zero, bCells_len, bCells_drop, bCells_take, bCells_app, bCells_one, bCells_plain, List.length_replicate, List.length_append, List.length_take, List.length_drop, List.take_length, and_true, true_and, and_self, decide_true, List.length_nil, List.length_cons, Nat.sub_zero, dB_mk, dB_ro, List.take_zero]
  have tk3 : List.take (l.length * 3) (gC enR l) = gC enR l := by rw [← gC_len enR_k l, List.take_length]
  have tl3 : (gC enR l).length = l.length * 3 := gC_len enR_k l
  have eR : Row.mk (gC enR l) true (.cells true) = gRo enR l := rfl
  have qt : (L t).length = t.size := rfl
  have qb : L (bs (L t)) = L t := rfl
  have eqb : ∀ x : ByteArray, strEq x x = true := fun x => by unfold strEq; simp
  simp only [tk3, eR, stZ_eq, qb]
  refine ⟨⟨⟨by omega, pl⟩, ⟨l, rfl, rfl⟩, by omega⟩, ?_⟩
  refine br_intro (fun _ => pl) (fun hs => ?_)
  refine br_intro (fun _ => pl) (fun na => ?_)
  refine br_intro (fun _ => pl) (fun nb => ?_)
  refine br_intro (fun _ => pl) (fun nc => ?_)
  have hs : stS l ((L t).length : Nat) = true := by simpa using hs
  obtain ⟨s1, s2, s3⟩ := st_sum l _ (by omega) (by omega) wl hs
  refine ⟨⟨k, a, b, c, l, L t, e⟩, by simp only; omega, rfl, pl, rfl, rfl, rfl, rfl, rfl, rfl, rfl, fun side => ?_⟩
  cases side with
  | false => exact fun _ _ => ⟨rfl, pl⟩
  | true =>
    intro _ hm
    have ok : okL a b c (gRo enR l) l.length (bs (L t)) := ⟨⟨l, rfl, rfl, fun x hx => ⟨s2 x hx, hm x hx⟩, by omega⟩, by unfold maxLen; omega, ⟨ha, hb, hc⟩, ⟨by unfold noMin; simpa using na, by unfold noMin; simpa using nb, by unfold noMin; simpa using nc⟩, by rw [qb]; omega⟩
    simp only [tk3, eR, eqb]
    exact ⟨⟨⟨by omega, pl⟩, ok⟩, ⟨⟨by omega, pl⟩, ok⟩, br_b rfl ⟨trivial, pl⟩⟩
theorem q_rws {n : Nat} {cells : List Value} {Q : Nat → Prop} (hQ : ∀ m, Q m → m ≤ 1048576) (h : ElemsQ Q [.s, .s, .i .i64] n cells) : ∃ l : List Rw, l.length = n ∧ cells = gC enR l ∧ ∀ r ∈ l, I64 r.h ∧ r.n.length ≤ 1048576 ∧ r.v.length ≤ 1048576 := by
  obtain ⟨l, h1, h2, h3⟩ := h.data (α := Rw) enR (fun r => I64 r.h ∧ r.n.length ≤ 1048576 ∧ r.v.length ≤ 1048576) (fun c hc => by
    match c, hc with
    | [x, y, z], hc =>
      obtain ⟨c1, c2, c3, _⟩ := hc
      obtain ⟨s, rfl, w1, b1⟩ := cq_s c1
      obtain ⟨t, rfl, w2, b2⟩ := cq_s c2
      obtain ⟨u, rfl, w3⟩ := cq_i c3
      exact ⟨⟨L s, L t, u⟩, rfl, Sy.wf64 w3, hQ _ b1, hQ _ b2⟩)
  exact ⟨l, h1, h2, h3⟩
end Go.Proofs.YtnbfhihibgdgpaaGreatDoor.sl
