/- The law ReuseStricter of the program returns true, whatever the arguments of the given bulk, whatever the world; the arguments and what else was there stay. -/
import Derived.Test.YtajfdcijpchjdaaRows
import Derived.ChangeMaps5
import Derived.ChangeSame
import Derived.ChangeArms
import Derived.JoinedCond
import Derived.Test.YtajfdcijpchjdaaLlawRuS
namespace Go.Proofs.Ytajfdcijpchjdaa.reuseStricterUpto
open Go.Ev Go.Sy Go.ChangeShapes Go.WideShapes Go.ChangeAt Go.RowKit

theorem own : ownKnob Try.prog.godebug = none := by kernel_rfl

theorem spec : LawSpec Rows.reuseStricterSpec 6 := by
  refine ⟨rfl, fun H ds h => ?_⟩
  match ds, h with
  | [_, _, _, _, _, _], _ => exact ⟨rfl, rfl, rfl⟩

theorem one_le {H : Type} (d : DataW H) : 1 ≤ Rows.uptoBulk d := by
  cases d with
  | lit l => cases l <;> simp [Rows.uptoBulk]
  | _ => simp [Rows.uptoBulk]
theorem length_le {H : Type} (l : List (DataW H)) : l.length ≤ Rows.uptoBulkAll l := by
  induction l with
  | nil => simp [Rows.uptoBulkAll]
  | cons x r ih => have := one_le x; simp only [Rows.uptoBulkAll, List.length_cons]; omega
theorem mem_le {H : Type} {x : DataW H} : ∀ {l : List (DataW H)}, x ∈ l → Rows.uptoBulk x ≤ Rows.uptoBulkAll l
  | [], h => by simp at h
  | y :: l, h => by
    simp only [Rows.uptoBulkAll]
    rcases List.mem_cons.1 h with rfl | h
    · omega
    · have := mem_le h; omega
theorem str_of_bulk {H : Type} {s : ByteArray} {b : Nat} (hb : Rows.uptoBulk (DataW.lit (H := H) (.string s.data.toList)) ≤ b) : s.size ≤ b := by
  simp only [Rows.uptoBulk] at hb
  have e : s.data.toList.length = s.size := by rw [Array.length_toList]; rfl
  omega
def okD {H : Type} (d : DataW H) : Prop := Rows.uptoBulk d ≤ 1048576
def okN (n : Nat) : Prop := n ≤ 1048576
theorem okb {H : Type} : OkB (H := H) okD okN := by
  refine ⟨Nat.zero_le _, fun b h => ?_, fun parts x h hx => ?_, fun el sp x h hx => ?_, fun el sp h => ?_⟩
  · show b.length ≤ 1048576
    have h : Rows.uptoBulk (DataW.lit (H := H) (.string b)) ≤ 1048576 := h
    simp only [Rows.uptoBulk] at h; omega
  · show Rows.uptoBulk x ≤ 1048576
    have h : Rows.uptoBulk (DataW.agg parts) ≤ 1048576 := h
    have := mem_le hx; simp only [Rows.uptoBulk] at h; omega
  · show Rows.uptoBulk x ≤ 1048576
    have h : Rows.uptoBulk (DataW.slice el sp) ≤ 1048576 := h
    have := mem_le hx; simp only [Rows.uptoBulk] at h; omega
  · show el.length ≤ 1048576
    have h : Rows.uptoBulk (DataW.slice el sp) ≤ 1048576 := h
    have := length_le el; simp only [Rows.uptoBulk] at h; omega

theorem q_fields {n : Nat} {cells : List Value} (h : ElemsQ okN [.s, .s] n cells) : ∃ l : List Go.Proofs.Ytajfdcijpchjdaa.tk.Fl, l.length = n ∧ cells = Go.Proofs.Ytajfdcijpchjdaa.gl.gC Go.Proofs.Ytajfdcijpchjdaa.tk.enF l ∧ ∀ f ∈ l, f.n.length ≤ 1048576 ∧ f.v.length ≤ 1048576 := by
  obtain ⟨l, h1, h2, h3⟩ := h.data (α := Go.Proofs.Ytajfdcijpchjdaa.tk.Fl) Go.Proofs.Ytajfdcijpchjdaa.tk.enF (fun f => f.n.length ≤ 1048576 ∧ f.v.length ≤ 1048576) (fun c hc => by
    match c, hc with
    | [x, y], hc =>
      obtain ⟨c1, c2, _⟩ := hc
      obtain ⟨s, rfl, w1, b1⟩ := cq_s c1
      obtain ⟨t, rfl, w2, b2⟩ := cq_s c2
      exact ⟨⟨Go.Proofs.Ytajfdcijpchjdaa.tk.L s, Go.Proofs.Ytajfdcijpchjdaa.tk.L t⟩, rfl, b1, b2⟩)
  exact ⟨l, h1, h2, h3⟩

theorem contract {H : Type} {enc : TypeId × Value → H} (W : World) (base : Nat) (args : Array Value) (ds : List (DataW H)) (p : List MemPlace)
    (hval : ∀ (j : Nat) t v, Try.f6.params[j]? = some t → args[j]? = some v → Value.okWide Try.prog W .any base t v)
    (hA : DataW.TrodAll enc Try.prog W 0 (fun _ => true) true Try.f6.params.toList args.toList ds p) (hb : Rows.uptoBulkAll ds ≤ 1048576) :
    Calls Try.prog 6 args W fun e W' => e = .returned (.bool true) ∧ Below W.heap.size W W' := by
  rw [Try.params6] at hA hval
  obtain ⟨v0, vs0, d0, ds0, p0, q0, hargs, rfl, rfl, h0, r0⟩ := trodAll_cons hA
  obtain ⟨v1, vs1, d1, ds1, p1, q1, rfl, rfl, rfl, h1, r1⟩ := trodAll_cons r0
  obtain ⟨v2, vs2, d2, ds2, p2, q2, rfl, rfl, rfl, h2, r2⟩ := trodAll_cons r1
  obtain ⟨v3, vs3, d3, ds3, p3, q3, rfl, rfl, rfl, h3, r3⟩ := trodAll_cons r2
  obtain ⟨v4, vs4, d4, ds4, p4, q4, rfl, rfl, rfl, h4, r4⟩ := trodAll_cons r3
  obtain ⟨v5, vs5, d5, ds5, p5, q5, rfl, rfl, rfl, h5, r5⟩ := trodAll_cons r4
  obtain ⟨rfl, rfl, rfl⟩ := trodAll_nil r5
  obtain rfl : args = #[v0, v1, v2, v3, v4, v5] := by cases args; simp_all
  simp only [Rows.uptoBulkAll] at hb
  obtain ⟨cs0, rfl, hc0⟩ := struct_arg (ok := okD) (Q := okN) (k2 := [.p (.s), .p (.s), .p (.s), .p (.s), .sl 27 23 [.s, .s], .p (.i .i64), .p (.i .i64), .sl 27 23 [.s, .s], .p (.i .i64), .p (.s), .p (.i .i64), .p (.i .i64)]) (ts := [9, 9, 9, 9, 27, 3, 3, 27, 3, 9, 3, 3]) (d0 := 8) okb Try.underlying34 (by kernel_rfl) (by kernel_rfl) (by kernel_rfl) (by kernel_rfl) (by kernel_rfl) (hval 0 34 v0 rfl rfl) h0 (show Rows.uptoBulk d0 ≤ 1048576 by omega)
  obtain ⟨e0_0, e0_1, e0_2, e0_3, e0_4, e0_5, e0_6, e0_7, e0_8, e0_9, e0_10, e0_11, rfl⟩ : ∃ e0_0 e0_1 e0_2 e0_3 e0_4 e0_5 e0_6 e0_7 e0_8 e0_9 e0_10 e0_11, cs0 = [e0_0, e0_1, e0_2, e0_3, e0_4, e0_5, e0_6, e0_7, e0_8, e0_9, e0_10, e0_11] := by
    match cs0, hc0 with
    | [x0, x1, x2, x3, x4, x5, x6, x7, x8, x9, x10, x11], _ => exact ⟨x0, x1, x2, x3, x4, x5, x6, x7, x8, x9, x10, x11, rfl⟩
  obtain ⟨f0_0, f0_1, f0_2, f0_3, f0_4, f0_5, f0_6, f0_7, f0_8, f0_9, f0_10, f0_11, _⟩ := hc0
  obtain ⟨a0_0, rfl, w0_0, b0_0⟩ := cq_s f0_0
  obtain ⟨a0_1, rfl, w0_1, b0_1⟩ := cq_s f0_1
  obtain ⟨a0_2, rfl, w0_2, b0_2⟩ := cq_s f0_2
  obtain ⟨a0_3, rfl, w0_3, b0_3⟩ := cq_s f0_3
  obtain ⟨n0_4, c0_4, i0_4, hrow0_4, hel0_4, hm0_4, hq0_4, hvr0_4⟩ := f0_4
  obtain ⟨a0_4, hl0_4, rfl, w0_4⟩ := q_fields hel0_4
  subst hl0_4
  obtain ⟨a0_5, rfl, w0_5⟩ := cq_i f0_5
  obtain ⟨a0_6, rfl, w0_6⟩ := cq_i f0_6
  obtain ⟨n0_7, c0_7, i0_7, hrow0_7, hel0_7, hm0_7, hq0_7, hvr0_7⟩ := f0_7
  obtain ⟨a0_7, hl0_7, rfl, w0_7⟩ := q_fields hel0_7
  subst hl0_7
  obtain ⟨a0_8, rfl, w0_8⟩ := cq_i f0_8
  obtain ⟨a0_9, rfl, w0_9, b0_9⟩ := cq_s f0_9
  obtain ⟨a0_10, rfl, w0_10⟩ := cq_i f0_10
  obtain ⟨a0_11, rfl, w0_11⟩ := cq_i f0_11
  obtain ⟨cs1, rfl, hc1⟩ := struct_arg (ok := okD) (Q := okN) (k2 := [.p (.s), .p (.s), .p (.s), .p (.s), .sl 27 23 [.s, .s], .p (.i .i64)]) (ts := [9, 9, 9, 9, 27, 3]) (d0 := 8) okb Try.underlying29 (by kernel_rfl) (by kernel_rfl) (by kernel_rfl) (by kernel_rfl) (by kernel_rfl) (hval 1 29 v1 rfl rfl) h1 (show Rows.uptoBulk d1 ≤ 1048576 by omega)
  obtain ⟨e1_0, e1_1, e1_2, e1_3, e1_4, e1_5, rfl⟩ : ∃ e1_0 e1_1 e1_2 e1_3 e1_4 e1_5, cs1 = [e1_0, e1_1, e1_2, e1_3, e1_4, e1_5] := by
    match cs1, hc1 with
    | [x0, x1, x2, x3, x4, x5], _ => exact ⟨x0, x1, x2, x3, x4, x5, rfl⟩
  obtain ⟨f1_0, f1_1, f1_2, f1_3, f1_4, f1_5, _⟩ := hc1
  obtain ⟨a1_0, rfl, w1_0, b1_0⟩ := cq_s f1_0
  obtain ⟨a1_1, rfl, w1_1, b1_1⟩ := cq_s f1_1
  obtain ⟨a1_2, rfl, w1_2, b1_2⟩ := cq_s f1_2
  obtain ⟨a1_3, rfl, w1_3, b1_3⟩ := cq_s f1_3
  obtain ⟨n1_4, c1_4, i1_4, hrow1_4, hel1_4, hm1_4, hq1_4, hvr1_4⟩ := f1_4
  obtain ⟨a1_4, hl1_4, rfl, w1_4⟩ := q_fields hel1_4
  subst hl1_4
  obtain ⟨a1_5, rfl, w1_5⟩ := cq_i f1_5
  obtain ⟨a2, rfl, rfl, rfl, w2⟩ := open_int Try.underlying3 (hval 2 3 v2 rfl rfl) h2
  obtain ⟨a3, rfl⟩ := float_arg Try.underlying35 (hval 3 35 v3 rfl rfl)
  obtain ⟨a4, rfl, rfl, rfl, w4⟩ := open_int Try.underlying3 (hval 4 3 v4 rfl rfl) h4
  obtain ⟨a5, rfl, rfl, rfl, w5⟩ := open_int Try.underlying46 (hval 5 46 v5 rfl rfl) h5
  exact law_con (by kernel_rfl) (L := [(Go.Proofs.Ytajfdcijpchjdaa.gl.gC Go.Proofs.Ytajfdcijpchjdaa.tk.enF a0_4), (Go.Proofs.Ytajfdcijpchjdaa.gl.gC Go.Proofs.Ytajfdcijpchjdaa.tk.enF a0_7), (Go.Proofs.Ytajfdcijpchjdaa.gl.gC Go.Proofs.Ytajfdcijpchjdaa.tk.enF a1_4)]) (I := [i0_4, i0_7, i1_4]) (Nat.le_of_ble_eq_true rfl) (Go.Proofs.Ytajfdcijpchjdaa.tk.rs_law a0_0 a0_1 a0_2 a0_3 a0_4 a0_5 a0_6 a0_7 a0_8 a0_9 a0_10 a0_11 a1_0 a1_1 a1_2 a1_3 a1_4 a1_5 a2 a3 a4 a5 b0_0 b0_1 b0_2 b0_3 hq0_4 w0_4 (Sy.wf64 w0_5) (Sy.wf64 w0_6) hq0_7 w0_7 (Sy.wf64 w0_8) b0_9 (Sy.wf64 w0_10) (Sy.wf64 w0_11) b1_0 b1_1 b1_2 b1_3 hq1_4 w1_4 (Sy.wf64 w1_5) (Sy.wf64 w2) (Sy.wf64 w4) w5) (lr_cons hrow0_4 (lr_cons hrow0_7 (lr_cons hrow1_4 lr_nil))) rfl (VRs.cons (VRs.agg (VRs.cons (VR.str _) (VRs.cons (VR.str _) (VRs.cons (VR.str _) (VRs.cons (VR.str _) (VRs.cons (hvr0_4 _ 0 rfl) (VRs.cons (VR.int _ _) (VRs.cons (VR.int _ _) (VRs.cons (hvr0_7 _ 1 rfl) (VRs.cons (VR.int _ _) (VRs.cons (VR.str _) (VRs.cons (VR.int _ _) (VRs.cons (VR.int _ _) .nil))))))))))))) (VRs.cons (VRs.agg (VRs.cons (VR.str _) (VRs.cons (VR.str _) (VRs.cons (VR.str _) (VRs.cons (VR.str _) (VRs.cons (hvr1_4 _ 2 rfl) (VRs.cons (VR.int _ _) .nil))))))) (VRs.cons (VR.int _ _) (VRs.cons (plain_refl 12 _ rfl) (VRs.cons (VR.int _ _) (VRs.cons (VR.int _ _) .nil))))))

set_option maxRecDepth 100000 in
theorem lifted (os : Os) (started : os.Started) (H : Type) (enc : TypeId × Value → H) (F : Stop.Interp) :
    ReturnsInHanded {} Try.checked os 6 .any ((Rows.OpenSpec.upto Rows.reuseStricterSpec).pre6 enc Try.prog Try.f6 Rows.reuseStricterUptoRow.domain false) (((Rows.OpenSpec.upto Rows.reuseStricterSpec).at F).post enc Try.prog Try.f6 false true false false) := by
  refine returnsInHanded_of_cond (C := Try.checked) (s := Rows.OpenSpec.upto Rows.reuseStricterSpec) (k := Rows.uptoSmall) rfl own started (by kernel_rfl) Try.func6
    (OpenSpec.witness (enc := enc) (C := Try.checked) (s := Rows.OpenSpec.upto Rows.reuseStricterSpec) (k := Rows.uptoSmall) rfl false ⟨#[], #[.agg #[.string .empty, .string .empty, .string .empty, .string .empty, .slice none 0 0, .int .i64 0, .int .i64 0, .slice none 0 0, .int .i64 0, .string .empty, .int .i64 0, .int .i64 0], .agg #[.string .empty, .string .empty, .string .empty, .string .empty, .slice none 0 0, .int .i64 0], .int .i64 0, .float .f64 0, .int .i64 0, .int .u16 0], []⟩ 8 (by kernel_rfl) (by kernel_rfl) (by kernel_rfl)
      (x := ([.agg [.agg [.lit (.string []), .lit (.string []), .lit (.string []), .lit (.string []), .nil, .lit (.int .i64 0)], .agg [.lit (.int .i64 0), .nil, .lit (.int .i64 0)], .lit (.string []), .lit (.int .i64 0), .lit (.int .i64 0)], .agg [.lit (.string []), .lit (.string []), .lit (.string []), .lit (.string []), .nil, .lit (.int .i64 0)], .lit (.int .i64 0), .lit (.float .f64 0), .lit (.int .i64 0), .lit (.int .u16 0)], [], [])) (by kernel_rfl) rfl (by kernel_rfl)) ?_
  intro W base args ds gs before hval hW _ hk _
  have hW' := hW
  obtain ⟨p, q, hA, hV, rfl, _, _⟩ := hW
  obtain ⟨rfl, rfl⟩ := trodVars_none hV
  have hb : Rows.uptoBulkAll ds ≤ 1048576 := by
    have h : Rows.uptoBulkAll (ds ++ []) ≤ 1048576 := of_decide_eq_true hk
    rwa [List.append_nil] at h
  refine (contract W base args ds p hval hA hb).mono fun e W' ⟨he, hb⟩ => ?_
  exact ⟨_, he, law_post spec rfl Try.underlying4 (by kernel_rfl) (fun t ht => by
      have hall : (Try.f6.params.toList.all fun t => Try.prog.readableRec t && decide (t < Try.prog.types.size)) = true := by kernel_rfl
      rw [List.all_eq_true] at hall
      have := hall t ht
      rw [Bool.and_eq_true] at this
      exact ⟨this.1, of_decide_eq_true this.2⟩) hW' hb⟩

theorem proved : Rows.ReuseStricterUptoSaid :=
  OpenClaim.holds_of_cond 6 Try.f6 rfl rfl rfl rfl rfl rfl rfl ⟨rfl, rfl, rfl, rfl, rfl⟩ rfl rfl rfl rfl rfl (by kernel_rfl) Try.func6 (by kernel_rfl)
    (of_decide_eq_true (by kernel_rfl)) (by unfold Func.isWrapper; first | (rw [if_pos (by decide +kernel)]; kernel_rfl) | (rw [if_neg (by decide +kernel)]; exact ⟨rfl, rfl⟩))
    (fun os started H enc _ F => lifted os started H enc F)
end Go.Proofs.Ytajfdcijpchjdaa.reuseStricterUpto
