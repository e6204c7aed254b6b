/- The first part of what follows: the contract, lifted. -/
import Derived.Test.YtkjppedfedaenaaGreatDoorRows
import Derived.ChangeMaps5
import Derived.ChangeSame
import Derived.ChangeArms
import Derived.JoinedCond
import Derived.Test.YtkjppedfedaenaaGreatDoorCards
import Derived.Test.YtkjppedfedaenaaGreatDoorTie
import Derived.ProofKit
import Derived.LaidMore
import Derived.OpenShut
import Derived.Stop.Joined
import Derived.Stop.LaidErr
import Derived.SevenTiedAt
import Derived.Lib.LaidTab
import Derived.Test.YtkjppedfedaenaaGreatDoorLlawCy
namespace Go.Proofs.YtkjppedfedaenaaGreatDoor.calmRepliesUpto
open Go.Ev Go.Sy Go.ChangeShapes Go.WideShapes Go.ChangeAt Go.RowKit

theorem own : ownKnob Tryz.prog.godebug = none := by kernel_rfl

theorem spec : LawSpec Rows.calmRepliesSpec 2 := by
  refine ⟨rfl, fun H ds h => ?_⟩
  match ds, h with
  | [_, _], _ => exact ⟨rfl, rfl, rfl⟩

theorem one_le {H : Type} (d : DataW H) : 1 ≤ Rows.uptoBulk d := by
  cases d with
  | lit l => cases l <;> simp [Rows.uptoBulk]
  | _ => simp [Rows.uptoBulk]
theorem length_le {H : Type} (l : List (DataW H)) : l.length ≤ Rows.uptoBulkAll l := by
  induction l with
  | nil => simp [Rows.uptoBulkAll]
  | cons x r ih => have := one_le x; simp only [Rows.uptoBulkAll, List.length_cons]; omega
theorem mem_le {H : Type} {x : DataW H} : ∀ {l : List (DataW H)}, x ∈ l → Rows.uptoBulk x ≤ Rows.uptoBulkAll l
  | [], h => by simp at h
  | y :: l, h => by
    simp only [Rows.uptoBulkAll]
    rcases List.mem_cons.1 h with rfl | h
    · omega
    · have := mem_le h; omega
theorem str_of_bulk {H : Type} {s : ByteArray} {b : Nat} (hb : Rows.uptoBulk (DataW.lit (H := H) (.string s.data.toList)) ≤ b) : s.size ≤ b := by
  simp only [Rows.uptoBulk] at hb
  have e : s.data.toList.length = s.size := by rw [Array.length_toList]; rfl
  omega
def okD {H : Type} (d : DataW H) : Prop := Rows.uptoBulk d ≤ 1048576
def okN (n : Nat) : Prop := n ≤ 1048576
theorem okb {H : Type} : OkB (H := H) okD okN := by
  refine ⟨Nat.zero_le _, fun b h => ?_, fun parts x h hx => ?_, fun el sp x h hx => ?_, fun el sp h => ?_⟩
  · show b.length ≤ 1048576
    have h : Rows.uptoBulk (DataW.lit (H := H) (.string b)) ≤ 1048576 := h
    simp only [Rows.uptoBulk] at h; omega
  · show Rows.uptoBulk x ≤ 1048576
    have h : Rows.uptoBulk (DataW.agg parts) ≤ 1048576 := h
    have := mem_le hx; simp only [Rows.uptoBulk] at h; omega
  · show Rows.uptoBulk x ≤ 1048576
    have h : Rows.uptoBulk (DataW.slice el sp) ≤ 1048576 := h
    have := mem_le hx; simp only [Rows.uptoBulk] at h; omega
  · show el.length ≤ 1048576
    have h : Rows.uptoBulk (DataW.slice el sp) ≤ 1048576 := h
    have := length_le el; simp only [Rows.uptoBulk] at h; omega

theorem q_fields {n : Nat} {cells : List Value} (h : ElemsQ okN [.s, .s] n cells) : ∃ l : List Go.Proofs.YtkjppedfedaenaaGreatDoor.tk.Fl, l.length = n ∧ cells = Go.Proofs.YtkjppedfedaenaaGreatDoor.gl.gC Go.Proofs.YtkjppedfedaenaaGreatDoor.tk.enF l ∧ ∀ f ∈ l, f.n.length ≤ 1048576 ∧ f.v.length ≤ 1048576 := by
  obtain ⟨l, h1, h2, h3⟩ := h.data (α := Go.Proofs.YtkjppedfedaenaaGreatDoor.tk.Fl) Go.Proofs.YtkjppedfedaenaaGreatDoor.tk.enF (fun f => f.n.length ≤ 1048576 ∧ f.v.length ≤ 1048576) (fun c hc => by
    match c, hc with
    | [x, y], hc =>
      obtain ⟨c1, c2, _⟩ := hc
      obtain ⟨s, rfl, w1, b1⟩ := cq_s c1
      obtain ⟨t, rfl, w2, b2⟩ := cq_s c2
      exact ⟨⟨Go.Proofs.YtkjppedfedaenaaGreatDoor.tk.L s, Go.Proofs.YtkjppedfedaenaaGreatDoor.tk.L t⟩, rfl, b1, b2⟩)
  exact ⟨l, h1, h2, h3⟩

theorem door_met (os : Os) (args : Array Value) : laidMetH Tryz.prog Rows.calmRepliesUptoRow.laid ((World.doorLaid Tryz.prog 4000 os).forCall (fun _ _ => 0) ⟨#[], args, []⟩).memory :=
  laidMetH_of_parts3 (fuel := 8) (laidMet_of_run' 8 (by kernel_rfl) (by kernel_rfl)) (by kernel_rfl) (by kernel_rfl)
theorem tabIs_of_laid {P : Program} {W : World} {x : String × DataW Unit} {rest : List (String × DataW Unit)} {g : Nat} {t e : TypeId} {n : Nat}
    (hg : P.globalNamed x.1 = some g) (hty : (P.globals[g]?).map (·.type) = some t) (ht : P.underlying t = some (.array n e)) (he : P.underlying e = some (.int .u64)) (hce : P.cellsOf e = 1) (hct : P.cellsOf t = n)
    (hx : x.2 = Lib.tabData .u64 Lib.pow10Tab) (h : laidMet P (x :: rest) W) : ∃ ee fr, W.heap[g]? = some (.cells (Lib.pow10Tab.map fun z => Value.int .u64 z).toArray ee fr) := by
  obtain ⟨a, b⟩ := x
  simp only at hx hg
  subst hx
  have := Lib.tabIs_of_head hg hty ht he hce hct h
  unfold Lib.TabIs World.var? at this
  rw [hg] at this
  simp only [Option.bind_some] at this
  split at this
  · rename_i cs e0 fr hc
    simp only [Option.some.injEq] at this
    subst this
    exact ⟨e0, fr, hc⟩
  · simp at this
theorem tab_met {W : World} (h : laidMetH Tryz.prog Rows.calmRepliesUptoRow.laid W) : TabW W := by
  rw [MakeChecks.laidMetH_plain _ _ _ (by kernel_rfl)] at h
  obtain ⟨e, fr, hh⟩ := tabIs_of_laid (g := 0) (t := 385) (e := 372) (n := 20) (by kernel_rfl) (by kernel_rfl) (by kernel_rfl) (by kernel_rfl) (by kernel_rfl) (by kernel_rfl) (by kernel_rfl) h.tail.tail
  intro g hg
  have : tabNo = some 0 := by kernel_rfl
  rw [this] at hg
  obtain rfl := Option.some.inj hg
  exact ⟨e, fr, hh.trans (congrArg some (show Obj.cells _ e fr = Obj.cells tabCells e fr by kernel_rfl))⟩

set_option maxRecDepth 100000 in
theorem contract {H : Type} {enc : TypeId × Value → H} (W : World) (base : Nat) (args : Array Value) (ds : List (DataW H)) (p : List MemPlace)
    (hval : ∀ (j : Nat) t v, Tryz.f4.params[j]? = some t → args[j]? = some v → Value.okWide Tryz.prog W .any base t v)
    (hA : DataW.TrodAll enc Tryz.prog W 0 (fun _ => true) true Tryz.f4.params.toList args.toList ds p) (hb : Rows.uptoBulkAll ds ≤ 1048576) (hT : TabW W) :
    Calls Tryz.prog 4 args W fun e W' => e = .returned (.bool true) ∧ Below W.heap.size W W' := by
  rw [Tryz.params4] at hA hval
  obtain ⟨v0, vs0, d0, ds0, p0, q0, hargs, rfl, rfl, h0, r0⟩ := trodAll_cons hA
  obtain ⟨v1, vs1, d1, ds1, p1, q1, rfl, rfl, rfl, h1, r1⟩ := trodAll_cons r0
  obtain ⟨rfl, rfl, rfl⟩ := trodAll_nil r1
  obtain rfl : args = #[v0, v1] := by cases args; simp_all
  simp only [Rows.uptoBulkAll] at hb
  obtain ⟨cs0, rfl, hc0⟩ := struct_arg (ok := okD) (Q := okN) (k2 := [.p (.i .i64), .p (.s), .p (.s), .p (.s), .sl 22 29 [.s, .s]]) (ts := [3, 9, 9, 9, 22]) (d0 := 8) okb Tryz.underlying24 (by kernel_rfl) (by kernel_rfl) (by kernel_rfl) (by kernel_rfl) (by kernel_rfl) (hval 0 24 v0 rfl rfl) h0 (show Rows.uptoBulk d0 ≤ 1048576 by omega)
  obtain ⟨e0_0, e0_1, e0_2, e0_3, e0_4, rfl⟩ : ∃ e0_0 e0_1 e0_2 e0_3 e0_4, cs0 = [e0_0, e0_1, e0_2, e0_3, e0_4] := by
    match cs0, hc0 with
    | [x0, x1, x2, x3, x4], _ => exact ⟨x0, x1, x2, x3, x4, rfl⟩
  obtain ⟨f0_0, f0_1, f0_2, f0_3, f0_4, _⟩ := hc0
  obtain ⟨a0_0, rfl, w0_0⟩ := cq_i f0_0
  obtain ⟨a0_1, rfl, w0_1, b0_1⟩ := cq_s f0_1
  obtain ⟨a0_2, rfl, w0_2, b0_2⟩ := cq_s f0_2
  obtain ⟨a0_3, rfl, w0_3, b0_3⟩ := cq_s f0_3
  obtain ⟨n0_4, c0_4, i0_4, hrow0_4, hel0_4, hm0_4, hq0_4, hvr0_4⟩ := f0_4
  obtain ⟨a0_4, hl0_4, rfl, w0_4⟩ := q_fields hel0_4
  subst hl0_4
  obtain ⟨cs1, rfl, hc1⟩ := struct_arg (ok := okD) (Q := okN) (k2 := [.p (.i .i64), .p (.i .i64), .p (.i .i64), .sl 22 29 [.s, .s], .p (.s), .p (.b), .p (.b), .p (.i .i64), .p (.i .i64)]) (ts := [3, 3, 3, 22, 9, 4, 4, 30, 3]) (d0 := 8) okb Tryz.underlying32 (by kernel_rfl) (by kernel_rfl) (by kernel_rfl) (by kernel_rfl) (by kernel_rfl) (hval 1 32 v1 rfl rfl) h1 (show Rows.uptoBulk d1 ≤ 1048576 by omega)
  obtain ⟨e1_0, e1_1, e1_2, e1_3, e1_4, e1_5, e1_6, e1_7, e1_8, rfl⟩ : ∃ e1_0 e1_1 e1_2 e1_3 e1_4 e1_5 e1_6 e1_7 e1_8, cs1 = [e1_0, e1_1, e1_2, e1_3, e1_4, e1_5, e1_6, e1_7, e1_8] := by
    match cs1, hc1 with
    | [x0, x1, x2, x3, x4, x5, x6, x7, x8], _ => exact ⟨x0, x1, x2, x3, x4, x5, x6, x7, x8, rfl⟩
  obtain ⟨f1_0, f1_1, f1_2, f1_3, f1_4, f1_5, f1_6, f1_7, f1_8, _⟩ := hc1
  obtain ⟨a1_0, rfl, w1_0⟩ := cq_i f1_0
  obtain ⟨a1_1, rfl, w1_1⟩ := cq_i f1_1
  obtain ⟨a1_2, rfl, w1_2⟩ := cq_i f1_2
  obtain ⟨n1_3, c1_3, i1_3, hrow1_3, hel1_3, hm1_3, hq1_3, hvr1_3⟩ := f1_3
  obtain ⟨a1_3, hl1_3, rfl, w1_3⟩ := q_fields hel1_3
  subst hl1_3
  obtain ⟨a1_4, rfl, w1_4, b1_4⟩ := cq_s f1_4
  obtain ⟨a1_5, rfl⟩ := cq_b f1_5
  obtain ⟨a1_6, rfl⟩ := cq_b f1_6
  obtain ⟨a1_7, rfl, w1_7⟩ := cq_i f1_7
  obtain ⟨a1_8, rfl, w1_8⟩ := cq_i f1_8
  exact law_con (by kernel_rfl) (L := [(Go.Proofs.YtkjppedfedaenaaGreatDoor.gl.gC Go.Proofs.YtkjppedfedaenaaGreatDoor.tk.enF a0_4), (Go.Proofs.YtkjppedfedaenaaGreatDoor.gl.gC Go.Proofs.YtkjppedfedaenaaGreatDoor.tk.enF a1_3)]) (I := [i0_4, i1_3]) (Nat.le_of_ble_eq_true rfl) (Go.Proofs.YtkjppedfedaenaaGreatDoor.cy.Cy_law a0_0 a0_1 a0_2 a0_3 a0_4 a1_0 a1_1 a1_2 a1_3 a1_4 a1_5 a1_6 a1_7 a1_8 (Sy.wf64 w0_0) b0_1 b0_2 b0_3 hq0_4 w0_4 (Sy.wf64 w1_0) (Sy.wf64 w1_1) (Sy.wf64 w1_2) hq1_3 w1_3 b1_4 (Sy.wf64 w1_7) (Sy.wf64 w1_8)) (lr_cons hrow0_4 (lr_cons hrow1_3 lr_nil)) rfl (VRs.cons (VRs.agg (VRs.cons (VR.int _ _) (VRs.cons (VR.str _) (VRs.cons (VR.str _) (VRs.cons (VR.str _) (VRs.cons (hvr0_4 _ 0 rfl) .nil)))))) (VRs.cons (VRs.agg (VRs.cons (VR.int _ _) (VRs.cons (VR.int _ _) (VRs.cons (VR.int _ _) (VRs.cons (hvr1_3 _ 1 rfl) (VRs.cons (VR.str _) (VRs.cons (VR.bool _) (VRs.cons (VR.bool _) (VRs.cons (VR.int _ _) (VRs.cons (VR.int _ _) .nil)))))))))) .nil)) hT

theorem pre_u {H : Type} {enc : TypeId × Value → H} {w : World} {args : Array Value} (h : (Rows.OpenSpec.upto Rows.calmRepliesSpec).pre enc Tryz.prog Tryz.f4 Rows.calmRepliesUptoRow.domain false w args) :
    ∃ ds gs before, DataW.Whole enc Tryz.prog Tryz.f4.params.toList (Rows.OpenSpec.upto Rows.calmRepliesSpec).vars false w args.toList ds gs before ∧ Rows.uptoBulkAll (ds ++ gs) ≤ 1048576 := by
  obtain ⟨ds, gs, before, hw, _, hk⟩ := (OpenSpec.pre_some (s := Rows.OpenSpec.upto Rows.calmRepliesSpec) (k := Rows.uptoSmall) rfl Rows.calmRepliesUptoRow.domain false w args).1 h
  exact ⟨ds, gs, before, hw, of_decide_eq_true hk⟩

set_option maxRecDepth 100000 in
theorem lifted (os : Os) (started : os.Started) (H : Type) (enc : TypeId × Value → H) (F : Stop.Interp) :
    ReturnsInHanded {} Tryz.checked os 4 .any (fun w args => ((Rows.OpenSpec.upto Rows.calmRepliesSpec).pre enc Tryz.prog Tryz.f4 Rows.calmRepliesUptoRow.domain false w args ∧ laidMetH Tryz.prog Rows.calmRepliesUptoRow.laid w) ∧ sizedMet enc Tryz.prog Tryz.f4 (Rows.OpenSpec.upto Rows.calmRepliesSpec) false w args)
      (((Rows.OpenSpec.upto Rows.calmRepliesSpec).at F).post enc Tryz.prog Tryz.f4 false true false false) := by
  have hok : Input.okWideB Tryz.checked.prog ((World.doorLaid Tryz.prog 4000 os).forCall (fun _ _ => 0) ⟨#[], #[.agg #[.int .i64 0, .string .empty, .string .empty, .string .empty, .slice none 0 0], .agg #[.int .i64 0, .int .i64 0, .int .i64 0, .slice none 0 0, .string .empty, .bool false, .bool false, .int .i64 0, .int .i64 0]], []⟩) 4 ⟨#[], #[.agg #[.int .i64 0, .string .empty, .string .empty, .string .empty, .slice none 0 0], .agg #[.int .i64 0, .int .i64 0, .int .i64 0, .slice none 0 0, .string .empty, .bool false, .bool false, .int .i64 0, .int .i64 0]], []⟩ = true := by kernel_rfl
  refine returnsInHanded_of_calls own started (by kernel_rfl) ⟨World.doorLaid Tryz.prog 4000 os, fun _ _ => 0, ⟨#[], #[.agg #[.int .i64 0, .string .empty, .string .empty, .string .empty, .slice none 0 0], .agg #[.int .i64 0, .int .i64 0, .int .i64 0, .slice none 0 0, .string .empty, .bool false, .bool false, .int .i64 0, .int .i64 0]], []⟩, rfl, World.shaped_of_RefB (by kernel_rfl) (by kernel_rfl), (Input.okWide_of_okWideB (base := 0) hok).1, (Input.okWide_of_okWideB hok).2,
    ⟨⟨(OpenSpec.pre_some (s := Rows.OpenSpec.upto Rows.calmRepliesSpec) (k := Rows.uptoSmall) rfl _ _ _ _).2 ⟨[.agg [.lit (.int .i64 0), .lit (.string []), .lit (.string []), .lit (.string []), .nil], .agg [.lit (.int .i64 0), .lit (.int .i64 0), .lit (.int .i64 0), .nil, .lit (.string []), .lit (.bool false), .lit (.bool false), .lit (.int .i64 0), .lit (.int .i64 0)]], [], [], DataW.Whole_of_whole (x := ([.agg [.lit (.int .i64 0), .lit (.string []), .lit (.string []), .lit (.string []), .nil], .agg [.lit (.int .i64 0), .lit (.int .i64 0), .lit (.int .i64 0), .nil, .lit (.string []), .lit (.bool false), .lit (.bool false), .lit (.int .i64 0), .lit (.int .i64 0)]], [], [])) (fuel := 8) (by kernel_rfl), rfl, by kernel_rfl⟩, door_met os _⟩, sizedMet_of_sizedB (s := Rows.calmRepliesSpec) (fuel := 8) (by kernel_rfl)⟩, by
      simp only [Assume.holds]
      exact ⟨by simp, by simp, fun _ => Modest.zero, by simp, by simp⟩⟩ ?_
  intro w tape i _ _ _ hok hpre _
  obtain ⟨_, _, _, fn', hfn', _, _, _, _, hval⟩ := hok
  obtain rfl : fn' = Tryz.f4 := Option.some.inj (hfn'.symm.trans Tryz.func4)
  obtain ⟨⟨hp1, hL⟩, _⟩ := hpre
  obtain ⟨ds, gs, before, hw, hk⟩ := pre_u hp1
  have hW := DataW.Whole.of_heap (w' := w.forCall tape i) (by rfl) hw
  have hL' : laidMetH Tryz.prog Rows.calmRepliesUptoRow.laid (w.forCall tape i) := hL.of_heap (by rfl)
  have hW' := hW
  obtain ⟨p, q, hA, hV, rfl, _, _⟩ := hW
  obtain ⟨rfl, rfl⟩ := trodVars_none hV
  have hb : Rows.uptoBulkAll ds ≤ 1048576 := by rwa [List.append_nil] at hk
  refine (contract (w.forCall tape i) w.heap.size i.args ds p hval hA hb (tab_met hL')).mono fun e W' ⟨he, hb⟩ => ?_
  subst he
  exact ChangeSpec.post_blind (law_post spec rfl Tryz.underlying4 (by kernel_rfl) (fun t ht => by
      have hall : (Tryz.f4.params.toList.all fun t => Tryz.prog.readableRec t && decide (t < Tryz.prog.types.size)) = true := by kernel_rfl
      rw [List.all_eq_true] at hall
      have := hall t ht
      rw [Bool.and_eq_true] at this
      exact ⟨this.1, of_decide_eq_true this.2⟩) hW' hb)

end Go.Proofs.YtkjppedfedaenaaGreatDoor.calmRepliesUpto
