/- The law LedgerOwn of the program returns true, whatever the arguments of the given bulk, whatever the world; the arguments and what else was there stay. -/
import Derived.Test.YtgfidcdkjnnlgaaRows
import Derived.ChangeMaps5
import Derived.ChangeSame
import Derived.ChangeArms
import Derived.JoinedCond
import Derived.Test.YtgfidcdkjnnlgaaLlawLd
namespace Go.Proofs.Ytgfidcdkjnnlgaa.ledgerOwnUpto
open Go.Ev Go.Sy Go.ChangeShapes Go.WideShapes Go.ChangeAt Go.RowKit

theorem own : ownKnob Try.prog.godebug = none := by kernel_rfl

theorem spec : LawSpec Rows.ledgerOwnSpec 2 := by
  refine ⟨rfl, fun H ds h => ?_⟩
  match ds, h with
  | [_, _], _ => exact ⟨rfl, rfl, rfl⟩

theorem one_le {H : Type} (d : DataW H) : 1 ≤ Rows.uptoBulk d := by
  cases d with
  | lit l => cases l <;> simp [Rows.uptoBulk]
  | _ => simp [Rows.uptoBulk]
theorem length_le {H : Type} (l : List (DataW H)) : l.length ≤ Rows.uptoBulkAll l := by
  induction l with
  | nil => simp [Rows.uptoBulkAll]
  | cons x r ih => have := one_le x; simp only [Rows.uptoBulkAll, List.length_cons]; omega
theorem mem_le {H : Type} {x : DataW H} : ∀ {l : List (DataW H)}, x ∈ l → Rows.uptoBulk x ≤ Rows.uptoBulkAll l
  | [], h => by simp at h
  | y :: l, h => by
    simp only [Rows.uptoBulkAll]
    rcases List.mem_cons.1 h with rfl | h
    · omega
    · have := mem_le h; omega
theorem str_of_bulk {H : Type} {s : ByteArray} {b : Nat} (hb : Rows.uptoBulk (DataW.lit (H := H) (.string s.data.toList)) ≤ b) : s.size ≤ b := by
  simp only [Rows.uptoBulk] at hb
  have e : s.data.toList.length = s.size := by rw [Array.length_toList]; rfl
  omega
def okD {H : Type} (d : DataW H) : Prop := Rows.uptoBulk d ≤ 1048576
def okN (n : Nat) : Prop := n ≤ 1048576
theorem okb {H : Type} : OkB (H := H) okD okN := by
  refine ⟨Nat.zero_le _, fun b h => ?_, fun parts x h hx => ?_, fun el sp x h hx => ?_, fun el sp h => ?_⟩
  · show b.length ≤ 1048576
    have h : Rows.uptoBulk (DataW.lit (H := H) (.string b)) ≤ 1048576 := h
    simp only [Rows.uptoBulk] at h; omega
  · show Rows.uptoBulk x ≤ 1048576
    have h : Rows.uptoBulk (DataW.agg parts) ≤ 1048576 := h
    have := mem_le hx; simp only [Rows.uptoBulk] at h; omega
  · show Rows.uptoBulk x ≤ 1048576
    have h : Rows.uptoBulk (DataW.slice el sp) ≤ 1048576 := h
    have := mem_le hx; simp only [Rows.uptoBulk] at h; omega
  · show el.length ≤ 1048576
    have h : Rows.uptoBulk (DataW.slice el sp) ≤ 1048576 := h
    have := length_le el; simp only [Rows.uptoBulk] at h; omega

theorem q_fields {n : Nat} {cells : List Value} (h : ElemsQ okN [.s, .s] n cells) : ∃ l : List Go.Proofs.Ytgfidcdkjnnlgaa.tk.Fl, l.length = n ∧ cells = Go.Proofs.Ytgfidcdkjnnlgaa.gl.gC Go.Proofs.Ytgfidcdkjnnlgaa.tk.enF l ∧ ∀ f ∈ l, f.n.length ≤ 1048576 ∧ f.v.length ≤ 1048576 := by
  obtain ⟨l, h1, h2, h3⟩ := h.data (α := Go.Proofs.Ytgfidcdkjnnlgaa.tk.Fl) Go.Proofs.Ytgfidcdkjnnlgaa.tk.enF (fun f => f.n.length ≤ 1048576 ∧ f.v.length ≤ 1048576) (fun c hc => by
    match c, hc with
    | [x, y], hc =>
      obtain ⟨c1, c2, _⟩ := hc
      obtain ⟨s, rfl, w1, b1⟩ := cq_s c1
      obtain ⟨t, rfl, w2, b2⟩ := cq_s c2
      exact ⟨⟨Go.Proofs.Ytgfidcdkjnnlgaa.tk.L s, Go.Proofs.Ytgfidcdkjnnlgaa.tk.L t⟩, rfl, b1, b2⟩)
  exact ⟨l, h1, h2, h3⟩

theorem contract {H : Type} {enc : TypeId × Value → H} (W : World) (base : Nat) (args : Array Value) (ds : List (DataW H)) (p : List MemPlace)
    (hval : ∀ (j : Nat) t v, Try.f6.params[j]? = some t → args[j]? = some v → Value.okWide Try.prog W .any base t v)
    (hA : DataW.TrodAll enc Try.prog W 0 (fun _ => true) true Try.f6.params.toList args.toList ds p) (hb : Rows.uptoBulkAll ds ≤ 1048576) :
    Calls Try.prog 6 args W fun e W' => e = .returned (.bool true) ∧ Below W.heap.size W W' := by
  rw [Try.params6] at hA hval
  obtain ⟨v0, vs0, d0, ds0, p0, q0, hargs, rfl, rfl, h0, r0⟩ := trodAll_cons hA
  obtain ⟨v1, vs1, d1, ds1, p1, q1, rfl, rfl, rfl, h1, r1⟩ := trodAll_cons r0
  obtain ⟨rfl, rfl, rfl⟩ := trodAll_nil r1
  obtain rfl : args = #[v0, v1] := by cases args; simp_all
  simp only [Rows.uptoBulkAll] at hb
  obtain ⟨cs0, rfl, hc0⟩ := struct_arg (ok := okD) (Q := okN) (k2 := [.p (.i .i64), .p (.i .i64), .p (.i .i64), .sl 25 35 [.s, .s], .p (.s), .p (.b), .p (.b), .p (.i .i64), .p (.i .i64)]) (ts := [3, 3, 3, 25, 9, 4, 4, 27, 3]) (d0 := 8) okb Try.underlying29 (by kernel_rfl) (by kernel_rfl) (by kernel_rfl) (by kernel_rfl) (by kernel_rfl) (hval 0 29 v0 rfl rfl) h0 (show Rows.uptoBulk d0 ≤ 1048576 by omega)
  obtain ⟨e0_0, e0_1, e0_2, e0_3, e0_4, e0_5, e0_6, e0_7, e0_8, rfl⟩ : ∃ e0_0 e0_1 e0_2 e0_3 e0_4 e0_5 e0_6 e0_7 e0_8, cs0 = [e0_0, e0_1, e0_2, e0_3, e0_4, e0_5, e0_6, e0_7, e0_8] := by
    match cs0, hc0 with
    | [x0, x1, x2, x3, x4, x5, x6, x7, x8], _ => exact ⟨x0, x1, x2, x3, x4, x5, x6, x7, x8, rfl⟩
  obtain ⟨f0_0, f0_1, f0_2, f0_3, f0_4, f0_5, f0_6, f0_7, f0_8, _⟩ := hc0
  obtain ⟨a0_0, rfl, w0_0⟩ := cq_i f0_0
  obtain ⟨a0_1, rfl, w0_1⟩ := cq_i f0_1
  obtain ⟨a0_2, rfl, w0_2⟩ := cq_i f0_2
  obtain ⟨n0_3, c0_3, i0_3, hrow0_3, hel0_3, hm0_3, hq0_3, hvr0_3⟩ := f0_3
  obtain ⟨a0_3, hl0_3, rfl, w0_3⟩ := q_fields hel0_3
  subst hl0_3
  obtain ⟨a0_4, rfl, w0_4, b0_4⟩ := cq_s f0_4
  obtain ⟨a0_5, rfl⟩ := cq_b f0_5
  obtain ⟨a0_6, rfl⟩ := cq_b f0_6
  obtain ⟨a0_7, rfl, w0_7⟩ := cq_i f0_7
  obtain ⟨a0_8, rfl, w0_8⟩ := cq_i f0_8
  obtain ⟨a1, rfl, rfl, rfl, w1⟩ := open_int Try.underlying42 (hval 1 42 v1 rfl rfl) h1
  exact law_con (by kernel_rfl) (L := [(Go.Proofs.Ytgfidcdkjnnlgaa.gl.gC Go.Proofs.Ytgfidcdkjnnlgaa.tk.enF a0_3)]) (I := [i0_3]) (Nat.le_of_ble_eq_true rfl) (Go.Proofs.Ytgfidcdkjnnlgaa.tk.ld_own a0_0 a0_1 a0_2 a0_3 a0_4 a0_5 a0_6 a0_7 a0_8 a1 (Sy.wf64 w0_0) (Sy.wf64 w0_1) (Sy.wf64 w0_2) hq0_3 w0_3 b0_4 (Sy.wf64 w0_7) (Sy.wf64 w0_8) w1) (lr_cons hrow0_3 lr_nil) rfl (VRs.cons (VRs.agg (VRs.cons (VR.int _ _) (VRs.cons (VR.int _ _) (VRs.cons (VR.int _ _) (VRs.cons (hvr0_3 _ 0 rfl) (VRs.cons (VR.str _) (VRs.cons (VR.bool _) (VRs.cons (VR.bool _) (VRs.cons (VR.int _ _) (VRs.cons (VR.int _ _) .nil)))))))))) (VRs.cons (VR.int _ _) .nil))

set_option maxRecDepth 100000 in
theorem lifted (os : Os) (started : os.Started) (H : Type) (enc : TypeId × Value → H) (F : Stop.Interp) :
    ReturnsInHanded {} Try.checked os 6 .any ((Rows.OpenSpec.upto Rows.ledgerOwnSpec).pre6 enc Try.prog Try.f6 Rows.ledgerOwnUptoRow.domain false) (((Rows.OpenSpec.upto Rows.ledgerOwnSpec).at F).post enc Try.prog Try.f6 false true false false) := by
  refine returnsInHanded_of_cond (C := Try.checked) (s := Rows.OpenSpec.upto Rows.ledgerOwnSpec) (k := Rows.uptoSmall) rfl own started (by kernel_rfl) Try.func6
    (OpenSpec.witness (enc := enc) (C := Try.checked) (s := Rows.OpenSpec.upto Rows.ledgerOwnSpec) (k := Rows.uptoSmall) rfl false ⟨#[], #[.agg #[.int .i64 0, .int .i64 0, .int .i64 0, .slice none 0 0, .string .empty, .bool false, .bool false, .int .i64 0, .int .i64 0], .int .u16 0], []⟩ 8 (by kernel_rfl) (by kernel_rfl) (by kernel_rfl)
      (x := ([.agg [.lit (.int .i64 0), .lit (.int .i64 0), .lit (.int .i64 0), .nil, .lit (.string []), .lit (.bool false), .lit (.bool false), .lit (.int .i64 0), .lit (.int .i64 0)], .lit (.int .u16 0)], [], [])) (by kernel_rfl) rfl (by kernel_rfl)) ?_
  intro W base args ds gs before hval hW _ hk _
  have hW' := hW
  obtain ⟨p, q, hA, hV, rfl, _, _⟩ := hW
  obtain ⟨rfl, rfl⟩ := trodVars_none hV
  have hb : Rows.uptoBulkAll ds ≤ 1048576 := by
    have h : Rows.uptoBulkAll (ds ++ []) ≤ 1048576 := of_decide_eq_true hk
    rwa [List.append_nil] at h
  refine (contract W base args ds p hval hA hb).mono fun e W' ⟨he, hb⟩ => ?_
  exact ⟨_, he, law_post spec rfl Try.underlying4 (by kernel_rfl) (fun t ht => by
      have hall : (Try.f6.params.toList.all fun t => Try.prog.readableRec t && decide (t < Try.prog.types.size)) = true := by kernel_rfl
      rw [List.all_eq_true] at hall
      have := hall t ht
      rw [Bool.and_eq_true] at this
      exact ⟨this.1, of_decide_eq_true this.2⟩) hW' hb⟩

theorem proved : Rows.LedgerOwnUptoSaid :=
  OpenClaim.holds_of_cond 6 Try.f6 rfl rfl rfl rfl rfl rfl rfl ⟨rfl, rfl, rfl, rfl, rfl⟩ rfl rfl rfl rfl rfl (by kernel_rfl) Try.func6 (by kernel_rfl)
    (of_decide_eq_true (by kernel_rfl)) (by unfold Func.isWrapper; first | (rw [if_pos (by decide +kernel)]; kernel_rfl) | (rw [if_neg (by decide +kernel)]; exact ⟨rfl, rfl⟩))
    (fun os started H enc _ F => lifted os started H enc F)
end Go.Proofs.Ytgfidcdkjnnlgaa.ledgerOwnUpto
