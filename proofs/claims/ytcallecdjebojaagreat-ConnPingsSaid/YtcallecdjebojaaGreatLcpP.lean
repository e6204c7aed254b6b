/- ConnPings: its loop, and the law. -/
import Derived.Test.YtcallecdjebojaaGreatSz9
import Derived.Test.YtcallecdjebojaaGreatRows
import Derived.Test.YtcallecdjebojaaGreatLcpC
set_option maxRecDepth 20000
set_option linter.unusedSimpArgs false
set_option linter.unusedVariables false
namespace Go.Proofs.YtcallecdjebojaaGreat.cp
open Go Go.Ev Go.Sy Go.RowKit Go.Proofs.YtcallecdjebojaaGreat.gl Go.Proofs.YtcallecdjebojaaGreat.tk
def InvP (g : GP) (s : PS) : Prop := s.i ≤ g.l.length ∧ s.i ≤ 50 ∧ s.x.drop s.k = s.w ∧ s.k ≤ s.x.length ∧ s.w.length ≤ 17 * s.i ∧ s.x.length ≤ 36 + 17 * s.i
theorem o17 (f : UInt8) (n : Int) : (fP f n).length = 17 := rfl
theorem P_nxt (g : GP) (s : PS) (b : Bool) (hi : InvP g s) (hl : s.i < g.l.length) (h50 : s.i < 50) (n : Int) :
    InvP g ⟨s.i + 1, if b = true then s.w else s.w ++ fP 1 n, if b = true then s.x else s.w ++ fP 1 n, if b = true then s.k else 0, if b = true then 1 else 0, IntKind.u8.wrap n, IntKind.u8.wrap (ishr .u32 n 8), IntKind.u8.wrap (ishr .u32 n 16), IntKind.u8.wrap (ishr .u32 n 24)⟩ := by
  obtain ⟨i1, i2, i3, i4, i5, i6⟩ := hi
  cases b
  · refine ⟨by simp only; omega, by simp only; omega, by simp, by simp, ?_, ?_⟩ <;> simp only [Bool.false_eq_true, if_false, List.length_append, o17] <;> omega
  · refine ⟨by simp only; omega, by simp only; omega, i3, i4, ?_, ?_⟩ <;> simp only [if_true] <;> omega
theorem pl9 : Plain lfB.cells := by
  intro v hv
  simp only [lfB, List.mem_cons, List.not_mem_nil, or_false] at hv
  rcases hv with rfl | rfl | rfl | rfl | rfl | rfl | rfl | rfl | rfl <;> rfl
theorem pl36 : Plain quB.cells := fun v hv => by
  have : v ∈ bCells quL := hv
  exact bCells_plain _ v this
theorem P_piece : PieceOk ECp 2 (7, pP, specP) := by
  refine piece_first mixed (calls_envTc tCp_ok) (lok_envTc _ _) lm_none (n := 400) (n' := 11) (by kernel_rfl) (fun _ : GP => (⟨0, [], quL, 36, 0, 0, 0, 0, 0⟩ : PS)) InvP (fun g s => g.l.length - s.i) (sl := fun g s => slP g s.i s.w.length) (rl := rlP) (fun g hg => ?_) (fun g s hg hi => ?_)
  · refine (P0_round g _ _ _).mpr ?_
    obtain ⟨g1, g2, g3⟩ := hg
    unfold maxLen at g1 g2
    have hI : InvP g ⟨0, [], quL, 36, 0, 0, 0, 0, 0⟩ := ⟨Nat.zero_le _, Nat.zero_le _, rfl, by decide, Nat.le_refl _, by decide⟩
    simp only [ofNat_eq, toNat_cast, Nat.zero_add, Nat.add_zero, Nat.mul_one, List.drop_zero, bCells_len, bCells_drop, bCells_take, bCells_app, bCells_one, bCells_plain, List.length_replicate, List.length_append, List.length_take, List.length_drop, List.take_length, and_true, true_and, and_self, decide_true, List.length_nil, List.length_cons, Nat.sub_zero, dB_mk, dB_ro, List.take_zero, Int.toNat_natCast, uPl, bPl, pl17, veq_int, veq_sl]
    refine br_if (fun h => br_dec (by omega) ?_) (fun h => ?_)
    · have hl : 0 < g.l.length := by omega
      obtain ⟨c1, c2⟩ := uGet g.l 0 hl
      have hn := fun b => P_nxt g _ b hI hl (by decide) (g.l[0] : Int)
      simp only [c1, c2]
      generalize (g.l[0] : Int) = n at *
      simp (config := { decide := false }) only [cellI, List.getElem?_cons_zero, List.getElem?_cons_succ, true_and, and_true]
      have k16 : IntKind.u8.wrap (ishr .i64 ((8 : Nat) : Int) 16) = 0 := by decide +kernel
      have k8 : IntKind.u8.wrap (ishr .i64 ((8 : Nat) : Int) 8) = 0 := by decide +kernel
      have k0 : IntKind.u8.wrap ((8 : Nat) : Int) = 8 := by decide +kernel
      have a1 : InvP g ⟨1, [], quL, 36, 1, IntKind.u8.wrap n, IntKind.u8.wrap (ishr .u32 n 8), IntKind.u8.wrap (ishr .u32 n 16), IntKind.u8.wrap (ishr .u32 n 24)⟩ := hn true
      have n1 : InvP g ⟨1, fP 1 n, fP 1 n, 0, 0, IntKind.u8.wrap n, IntKind.u8.wrap (ishr .u32 n 8), IntKind.u8.wrap (ishr .u32 n 16), IntKind.u8.wrap (ishr .u32 n 24)⟩ := hn false
      have qc : bCells quL = quB.cells := rfl
      have ec := fP_c 1 n
      refine br_dec (by omega) (br_dec (by omega) (br_dec (by omega) (br_b rfl (br_b rfl (br_b rfl (br_b rfl (br_b rfl (br_b rfl (br_b rfl (br_b rfl ?_))))))))))
      refine br_if (fun ha => br_dec (by omega) ?_) (fun ha => ?_)
      · have hal : 0 < g.a.length := by omega
        obtain ⟨d1, d2⟩ := bGet g.a 0 hal
        rw [d1, d2]
        refine ⟨rfl, br_intro (fun _ => ⟨_, a1, by simp only; omega, rfl, rfl, rfl, rfl, qc, rfl, rfl⟩) (fun _ => ?_)⟩
        refine ⟨_, n1, by simp only; omega, rfl, rfl, rfl, rfl, ?_, rfl, ?_⟩
        · rw [k16, k8, k0]; exact ec
        · exact ec
      · refine ⟨_, n1, by simp only; omega, rfl, rfl, rfl, rfl, ?_, rfl, ?_⟩
        · rw [k16, k8, k0]; exact ec
        · exact ec
    · exact ⟨⟨[], quL, 36, lfB.cells, 9⟩, ⟨rfl, by decide, by decide, pl9⟩, rfl, rfl, rfl, rfl, rfl, rfl, pl9, rfl⟩
  · refine (P_round g s _ _).mpr ?_
    have hI := hi
    obtain ⟨g1, g2, g3⟩ := hg
    obtain ⟨i1, i2, i3, i4, i5, i6⟩ := hi
    unfold maxLen at g1 g2
    simp only [ofNat_eq, toNat_cast, Nat.zero_add, Nat.add_zero, Nat.mul_one, List.drop_zero, bCells_len, bCells_drop, bCells_take, bCells_app, bCells_one, bCells_plain, List.length_replicate, List.length_append, List.length_take, List.length_drop, List.take_length, and_true, true_and, and_self, decide_true, List.length_nil, List.length_cons, Nat.sub_zero, dB_mk, dB_ro, List.take_zero, Int.toNat_natCast, uPl, bPl, pl17, veq_int, veq_sl]
    refine br_if (fun h => br_if (fun h50 => br_dec (by omega) ?_) (fun h50 => ?_)) (fun h => ?_)
    · have hl : s.i < g.l.length := by omega
      obtain ⟨c1, c2⟩ := uGet g.l s.i hl
      have w1 : IntKind.i64.wrap ((s.i : Int) + 1) = ((s.i + 1 : Nat) : Int) := by rw [wr64_id (by unfold I64; omega)]; omega
      have w2 : IntKind.i64.wrap ((s.w.length : Int) + 17) = ((s.w.length + 17 : Nat) : Int) := by rw [wr64_id (by unfold I64; omega)]; omega
      have hn := fun b => P_nxt g s b hI hl (by omega) (g.l[s.i] : Int)
      simp only [c1, c2, w1, w2]
      generalize (g.l[s.i] : Int) = n at *
      simp (config := { decide := false }) only [cellI, List.getElem?_cons_zero, List.getElem?_cons_succ, true_and, and_true]
      have ew : List.take s.w.length (List.drop s.k s.x) = s.w := by rw [i3, List.take_length]
      have xl : s.x.length - s.k = s.w.length := by rw [← i3, List.length_drop]
      have ack : ∃ j, InvP g j ∧ g.l.length - j.i < g.l.length - s.i ∧ j = ⟨s.i + 1, s.w, s.x, s.k, 1, IntKind.u8.wrap n, IntKind.u8.wrap (ishr .u32 n 8), IntKind.u8.wrap (ishr .u32 n 16), IntKind.u8.wrap (ishr .u32 n 24)⟩ := ⟨_, hn true, by simp only; omega, rfl⟩
      have non : ∃ j, InvP g j ∧ g.l.length - j.i < g.l.length - s.i ∧ j = ⟨s.i + 1, s.w ++ fP 1 n, s.w ++ fP 1 n, 0, 0, IntKind.u8.wrap n, IntKind.u8.wrap (ishr .u32 n 8), IntKind.u8.wrap (ishr .u32 n 16), IntKind.u8.wrap (ishr .u32 n 24)⟩ := ⟨_, hn false, by simp only; omega, rfl⟩
      have ec : bCells (s.w ++ fP 1 n) = bCells s.w ++ bCells (fP 1 n) := (bCells_app _ _).symm
      rw [fP_c] at ec
      have el : (s.w ++ fP 1 n).length = s.w.length + 17 := by rw [List.length_append]; rfl
      have k16 : IntKind.u8.wrap (ishr .i64 ((8 : Nat) : Int) 16) = 0 := by decide +kernel
      have k8 : IntKind.u8.wrap (ishr .i64 ((8 : Nat) : Int) 8) = 0 := by decide +kernel
      have k0 : IntKind.u8.wrap ((8 : Nat) : Int) = 8 := by decide +kernel
      obtain ⟨ja, a1, a2, rfl⟩ := ack
      obtain ⟨jn, n1, n2, rfl⟩ := non
      refine br_dec (by omega) (br_dec (by omega) (br_dec (by omega) (br_b rfl (br_b rfl (br_b rfl (br_b rfl (br_b rfl (br_b rfl (br_b rfl (br_b rfl ?_))))))))))
      refine br_if (fun ha => br_dec (by omega) ?_) (fun ha => ?_)
      · have hal : s.i < g.a.length := by omega
        obtain ⟨d1, d2⟩ := bGet g.a s.i hal
        rw [d1, d2]
        refine ⟨rfl, br_intro (fun _ => ⟨_, a1, a2, rfl, rfl, rfl, rfl, rfl, rfl, rfl⟩) (fun _ => ?_)⟩
        refine br_dec (by omega) (br_b rfl (br_dec (by omega) (br_dec (by omega) (br_dec (by omega) (br_dec (by omega) (br_dec (by omega) (br_nd (by rw [show ((17 : Nat) : Int) = 17 from rfl, w2]; omega) (br_dec (by omega) (br_dec (by omega) ?_)))))))))
        refine ⟨_, n1, n2, el, rfl, rfl, el, ?_, rfl, ?_⟩
        · rw [ew, k16, k8, k0]; exact ec
        · rw [ec, List.nil_append, List.take_of_length_le (l := bCells s.w) (by rw [bCells_len]; exact Nat.le_refl _), List.take_of_length_le (by rw [List.length_append, bCells_len]; exact Nat.le_refl _), List.append_assoc]; rfl
      · refine br_dec (by omega) (br_b rfl (br_dec (by omega) (br_dec (by omega) (br_dec (by omega) (br_dec (by omega) (br_dec (by omega) (br_nd (by rw [show ((17 : Nat) : Int) = 17 from rfl, w2]; omega) (br_dec (by omega) (br_dec (by omega) ?_)))))))))
        refine ⟨_, n1, n2, el, rfl, rfl, el, ?_, rfl, ?_⟩
        · rw [ew, k16, k8, k0]; exact ec
        · rw [ec, List.nil_append, List.take_of_length_le (l := bCells s.w) (by rw [bCells_len]; exact Nat.le_refl _), List.take_of_length_le (by rw [List.length_append, bCells_len]; exact Nat.le_refl _), List.append_assoc]; rfl
    · refine ⟨⟨s.w, s.x, s.k, _, 17⟩, ⟨i3, i4, by simp only; omega, pl17 _ _ _ _ _⟩, rfl, rfl, rfl, rfl, rfl, rfl, pl17 _ _ _ _ _, rfl⟩
    · refine ⟨⟨s.w, s.x, s.k, _, 17⟩, ⟨i3, i4, by simp only; omega, pl17 _ _ _ _ _⟩, rfl, rfl, rfl, rfl, rfl, rfl, pl17 _ _ _ _ _, rfl⟩
theorem P_law (l : List Nat) (a : List Bool) (hl : l.length ≤ maxLen) (wl : ∀ n ∈ l, n < 4294967296) (ha : a.length ≤ maxLen) : Con Tryz.prog 7 [.slice (some ⟨0, 0, none⟩) l.length 1, .slice (some ⟨1, 0, none⟩) a.length 1] [gRo enU l, gRo enB a] (.bool true) [gRo enU l, gRo enB a] := by
  refine con_vc (E := ECp) mixed (calls_envTc tCp_ok) (lok_envTc _ _) (M := mP) (lm_one P_piece) (P_vc l a) ?_
  simp only [ofNat_eq, toNat_cast, Nat.zero_add, Nat.add_zero, Nat.mul_one, List.drop_zero, bCells_len, bCells_drop, bCells_take, bCells_app, bCells_one, bCells_plain, List.length_replicate, List.length_append, List.length_take, List.length_drop, List.take_length, and_true, true_and, and_self, decide_true, List.length_nil, List.length_cons, Nat.sub_zero, dB_mk, dB_ro, List.take_zero, Int.toNat_natCast, uPl, bPl]
  refine ⟨⟨pl36, pl9⟩, ⟨l, a⟩, ⟨hl, ha, wl⟩, rfl, rfl, rfl, rfl, pl36, pl9, fun y hy => ?_⟩
  obtain ⟨y1, y2, y3, y4⟩ := hy
  have hw : woZ ⟨bCells y.x, false, .cells true⟩ y.k = y.w := by
    unfold woZ; rw [sealV_eq, dB_mk, y1]
  have hlen : y.w.length = y.x.length - y.k := by rw [← y1, List.length_drop]
  rw [hw]
  simp only [List.take_length, smB_eq, decide_true]
  refine ⟨⟨y4, ⟨y.x, rfl, y2, hlen, y3, by decide⟩, ⟨y.y, rfl⟩⟩, ⟨⟨Nat.le_refl _, Nat.le_refl _⟩, ⟨y.w, rfl, rfl⟩, ⟨y.w, rfl, rfl⟩, by omega⟩, br_b rfl ?_⟩
  first | exact ⟨rfl, rfl⟩ | exact ⟨trivial, trivial⟩ | trivial
theorem wfu32 {n : Int} (h : (Lit.int .u32 n).wf = true) : 0 ≤ n ∧ n < 4294967296 := by
  simp only [Lit.wf, Bool.and_eq_true, decide_eq_true_eq] at h
  have h1 : IntKind.u32.min = 0 := by rfl
  have h2 : IntKind.u32.max = 4294967295 := by rfl
  rw [h1, h2] at h
  omega
theorem u_cells : ∀ l : List Int, (∀ x ∈ l, (Lit.int .u32 x).wf = true) → iCells .u32 l = gC enU (l.map Int.toNat)
  | [], _ => rfl
  | x :: l, h => by
    have ih := u_cells l (fun y hy => h y (List.mem_cons_of_mem _ hy))
    have hx := wfu32 (h x (List.mem_cons_self ..))
    have e : ((x.toNat : Nat) : Int) = x := by omega
    rw [List.map_cons, gC_cons, ← ih]
    show Value.int .u32 x :: iCells .u32 l = [Value.int .u32 ((x.toNat : Nat) : Int)] ++ iCells .u32 l
    rw [e]; rfl
theorem P_law2 (l : List Int) (a : List Bool) (hl : l.length ≤ maxLen) (wl : ∀ x ∈ l, (Lit.int .u32 x).wf = true) (ha : a.length ≤ maxLen) : Con Tryz.prog 7 [.slice (some ⟨0, 0, none⟩) l.length 1, .slice (some ⟨1, 0, none⟩) a.length 1] [⟨iCells .u32 l, true, .cells true⟩, gRo enB a] (.bool true) [⟨iCells .u32 l, true, .cells true⟩, gRo enB a] := by
  have h := P_law (l.map Int.toNat) a (by rw [List.length_map]; exact hl) (fun n hn => by
    obtain ⟨x, hx, rfl⟩ := List.mem_map.1 hn
    have := wfu32 (wl x hx); omega) ha
  rw [List.length_map] at h
  unfold gRo at h ⊢
  rw [u_cells l wl]
  exact h
end Go.Proofs.YtcallecdjebojaaGreat.cp
