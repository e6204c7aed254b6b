/- The first part of what follows: the contract, lifted. -/
import Derived.Test.YtnbfhihibgdgpaaGreatDoorRows
import Derived.ChangeMaps5
import Derived.ChangeSame
import Derived.ChangeArms
import Derived.JoinedCond
import Derived.Test.YtnbfhihibgdgpaaGreatDoorCards
import Derived.Test.YtnbfhihibgdgpaaGreatDoorTie
import Derived.ProofKit
import Derived.LaidMore
import Derived.OpenShut
import Derived.Stop.Joined
import Derived.Stop.LaidErr
import Derived.SevenTiedAt
import Derived.Lib.LaidTab
import Derived.Test.YtnbfhihibgdgpaaGreatDoorLswH
namespace Go.Proofs.YtnbfhihibgdgpaaGreatDoor.shellWordsUpto
open Go.Ev Go.Sy Go.ChangeShapes Go.WideShapes Go.ChangeAt Go.RowKit

theorem own : ownKnob Tryz.prog.godebug = none := by kernel_rfl

theorem spec : LawSpec Rows.shellWordsSpec 5 := by
  refine ⟨rfl, fun H ds h => ?_⟩
  match ds, h with
  | [_, _, _, _, _], _ => exact ⟨rfl, rfl, rfl⟩

theorem one_le {H : Type} (d : DataW H) : 1 ≤ Rows.uptoBulk d := by
  cases d with
  | lit l => cases l <;> simp [Rows.uptoBulk]
  | _ => simp [Rows.uptoBulk]
theorem length_le {H : Type} (l : List (DataW H)) : l.length ≤ Rows.uptoBulkAll l := by
  induction l with
  | nil => simp [Rows.uptoBulkAll]
  | cons x r ih => have := one_le x; simp only [Rows.uptoBulkAll, List.length_cons]; omega
theorem mem_le {H : Type} {x : DataW H} : ∀ {l : List (DataW H)}, x ∈ l → Rows.uptoBulk x ≤ Rows.uptoBulkAll l
  | [], h => by simp at h
  | y :: l, h => by
    simp only [Rows.uptoBulkAll]
    rcases List.mem_cons.1 h with rfl | h
    · omega
    · have := mem_le h; omega
theorem str_of_bulk {H : Type} {s : ByteArray} {b : Nat} (hb : Rows.uptoBulk (DataW.lit (H := H) (.string s.data.toList)) ≤ b) : s.size ≤ b := by
  simp only [Rows.uptoBulk] at hb
  have e : s.data.toList.length = s.size := by rw [Array.length_toList]; rfl
  omega
def okD {H : Type} (d : DataW H) : Prop := Rows.uptoBulk d ≤ 1048576
def okN (n : Nat) : Prop := n ≤ 1048576
theorem okb {H : Type} : OkB (H := H) okD okN := by
  refine ⟨Nat.zero_le _, fun b h => ?_, fun parts x h hx => ?_, fun el sp x h hx => ?_, fun el sp h => ?_⟩
  · show b.length ≤ 1048576
    have h : Rows.uptoBulk (DataW.lit (H := H) (.string b)) ≤ 1048576 := h
    simp only [Rows.uptoBulk] at h; omega
  · show Rows.uptoBulk x ≤ 1048576
    have h : Rows.uptoBulk (DataW.agg parts) ≤ 1048576 := h
    have := mem_le hx; simp only [Rows.uptoBulk] at h; omega
  · show Rows.uptoBulk x ≤ 1048576
    have h : Rows.uptoBulk (DataW.slice el sp) ≤ 1048576 := h
    have := mem_le hx; simp only [Rows.uptoBulk] at h; omega
  · show el.length ≤ 1048576
    have h : Rows.uptoBulk (DataW.slice el sp) ≤ 1048576 := h
    have := length_le el; simp only [Rows.uptoBulk] at h; omega

/-- The door's own heap, and the table that is laid by its text alone. -/
noncomputable def startW (os : Os) : World :=
  { World.doorLaid Tryz.prog 8000 os with heap :=
    match (Tryz.prog.globalNamed "unicode/utf8.first") with
    | some g => (match (World.doorLaid Tryz.prog 8000 os).heap[g]? with
      | some (.cells _ e fr) => (World.doorLaid Tryz.prog 8000 os).heap.setIfInBounds g (.cells (Pinned.utf8FirstZ.map fun z : Nat => Value.int .u8 (z : Int)).toArray e fr)
      | _ => (World.doorLaid Tryz.prog 8000 os).heap)
    | none => (World.doorLaid Tryz.prog 8000 os).heap }

theorem door_met (os : Os) (args : Array Value) : laidMetH Tryz.prog Rows.shellWordsUptoRow.laid ((startW os).forCall (fun _ _ => 0) ⟨#[], args, []⟩).memory :=
  laidMetH_of_parts3 (fuel := 8) (laidMet_of_run' 8 (by kernel_rfl) (by kernel_rfl)) (by kernel_rfl) (by kernel_rfl)
theorem tabIs_of_laid {P : Program} {W : World} {x : String × DataW Unit} {rest : List (String × DataW Unit)} {g : Nat} {t e : TypeId} {n : Nat}
    (hg : P.globalNamed x.1 = some g) (hty : (P.globals[g]?).map (·.type) = some t) (ht : P.underlying t = some (.array n e)) (he : P.underlying e = some (.int .u64)) (hce : P.cellsOf e = 1) (hct : P.cellsOf t = n)
    (hx : x.2 = Lib.tabData .u64 Lib.pow10Tab) (h : laidMet P (x :: rest) W) : ∃ ee fr, W.heap[g]? = some (.cells (Lib.pow10Tab.map fun z => Value.int .u64 z).toArray ee fr) := by
  obtain ⟨a, b⟩ := x
  simp only at hx hg
  subst hx
  have := Lib.tabIs_of_head hg hty ht he hce hct h
  unfold Lib.TabIs World.var? at this
  rw [hg] at this
  simp only [Option.bind_some] at this
  split at this
  · rename_i cs e0 fr hc
    simp only [Option.some.injEq] at this
    subst this
    exact ⟨e0, fr, hc⟩
  · simp at this
theorem tab_met {W : World} (h : laidMetH Tryz.prog Rows.shellWordsUptoRow.laid W) : TabW W := by
  rw [MakeChecks.laidMetH_plain _ _ _ (by kernel_rfl)] at h
  obtain ⟨e, fr, hh⟩ := tabIs_of_laid (g := 0) (t := 193) (e := 107) (n := 20) (by kernel_rfl) (by kernel_rfl) (by kernel_rfl) (by kernel_rfl) (by kernel_rfl) (by kernel_rfl) (by kernel_rfl) h.tail.tail
  intro g hg
  have : tabNo = some 0 := by kernel_rfl
  rw [this] at hg
  obtain rfl := Option.some.inj hg
  exact ⟨e, fr, hh.trans (congrArg some (show Obj.cells _ e fr = Obj.cells tabCells e fr by kernel_rfl))⟩

set_option maxRecDepth 100000 in
theorem contract {H : Type} {enc : TypeId × Value → H} (W : World) (base : Nat) (args : Array Value) (ds : List (DataW H)) (p : List MemPlace)
    (hval : ∀ (j : Nat) t v, Tryz.f5.params[j]? = some t → args[j]? = some v → Value.okWide Tryz.prog W .any base t v)
    (hA : DataW.TrodAll enc Tryz.prog W 0 (fun _ => true) true Tryz.f5.params.toList args.toList ds p) (hb : Rows.uptoBulkAll ds ≤ 1048576) (hT : TabW W) :
    Calls Tryz.prog 5 args W fun e W' => e = .returned (.bool true) ∧ Below W.heap.size W W' := by
  rw [Tryz.params5] at hA hval
  obtain ⟨v0, vs0, d0, ds0, p0, q0, hargs, rfl, rfl, h0, r0⟩ := trodAll_cons hA
  obtain ⟨v1, vs1, d1, ds1, p1, q1, rfl, rfl, rfl, h1, r1⟩ := trodAll_cons r0
  obtain ⟨v2, vs2, d2, ds2, p2, q2, rfl, rfl, rfl, h2, r2⟩ := trodAll_cons r1
  obtain ⟨v3, vs3, d3, ds3, p3, q3, rfl, rfl, rfl, h3, r3⟩ := trodAll_cons r2
  obtain ⟨v4, vs4, d4, ds4, p4, q4, rfl, rfl, rfl, h4, r4⟩ := trodAll_cons r3
  obtain ⟨rfl, rfl, rfl⟩ := trodAll_nil r4
  obtain rfl : args = #[v0, v1, v2, v3, v4] := by cases args; simp_all
  simp only [Rows.uptoBulkAll] at hb
  obtain ⟨a0, rfl, rfl, rfl, w0⟩ := open_int Tryz.underlying3 (hval 0 3 v0 rfl rfl) h0
  obtain ⟨a1, rfl, rfl, rfl, w1⟩ := open_int Tryz.underlying3 (hval 1 3 v1 rfl rfl) h1
  obtain ⟨a2, rfl, rfl, rfl, w2⟩ := Go.ChangeMaps.open_string Tryz.underlying9 (hval 2 9 v2 rfl rfl) h2
  have b2 : a2.size ≤ 1048576 := str_of_bulk (b := 1048576) (by omega)
  obtain ⟨n3, c3, i3, hrow3, hel3, hm3, hq3, hvr3⟩ := slice_arg (ok := okD) (Q := okN) (ks := [.s, .s, .i .i64]) (d0 := 8) okb Tryz.underlying28 (by kernel_rfl) (by kernel_rfl) (by decide) (hval 3 28 v3 rfl rfl) h3 (show Rows.uptoBulk d3 ≤ 1048576 by omega)
  obtain ⟨a3, hl3, rfl, w3⟩ := Go.Proofs.YtnbfhihibgdgpaaGreatDoor.sw.q_rws (fun _ h => h) hel3
  subst hl3
  obtain ⟨a4, rfl, rfl, rfl⟩ := open_bool Tryz.underlying4 (hval 4 4 v4 rfl rfl) h4
  exact law_con (by kernel_rfl) (L := [(Go.Proofs.YtnbfhihibgdgpaaGreatDoor.gl.gC Go.Proofs.YtnbfhihibgdgpaaGreatDoor.sn.enR a3)]) (I := [i3]) (Nat.le_of_ble_eq_true rfl) (Go.Proofs.YtnbfhihibgdgpaaGreatDoor.sw.Wd_law a0 a1 a2 a3 a4 (Sy.wf64 w0) (Sy.wf64 w1) b2 hq3 w3) (lr_cons hrow3 lr_nil) rfl (VRs.cons (VR.int _ _) (VRs.cons (VR.int _ _) (VRs.cons (VR.str _) (VRs.cons (hvr3 _ 0 rfl) (VRs.cons (VR.bool _) .nil))))) hT

theorem pre_u {H : Type} {enc : TypeId × Value → H} {w : World} {args : Array Value} (h : (Rows.OpenSpec.upto Rows.shellWordsSpec).pre enc Tryz.prog Tryz.f5 Rows.shellWordsUptoRow.domain false w args) :
    ∃ ds gs before, DataW.Whole enc Tryz.prog Tryz.f5.params.toList (Rows.OpenSpec.upto Rows.shellWordsSpec).vars false w args.toList ds gs before ∧ Rows.uptoBulkAll (ds ++ gs) ≤ 1048576 := by
  obtain ⟨ds, gs, before, hw, _, hk⟩ := (OpenSpec.pre_some (s := Rows.OpenSpec.upto Rows.shellWordsSpec) (k := Rows.uptoSmall) rfl Rows.shellWordsUptoRow.domain false w args).1 h
  exact ⟨ds, gs, before, hw, of_decide_eq_true hk⟩

set_option maxRecDepth 100000 in
theorem lifted (os : Os) (started : os.Started) (H : Type) (enc : TypeId × Value → H) (F : Stop.Interp) :
    ReturnsInHanded {} Tryz.checked os 5 .any (fun w args => ((Rows.OpenSpec.upto Rows.shellWordsSpec).pre enc Tryz.prog Tryz.f5 Rows.shellWordsUptoRow.domain false w args ∧ laidMetH Tryz.prog Rows.shellWordsUptoRow.laid w) ∧ sizedMet enc Tryz.prog Tryz.f5 (Rows.OpenSpec.upto Rows.shellWordsSpec) false w args)
      (((Rows.OpenSpec.upto Rows.shellWordsSpec).at F).post enc Tryz.prog Tryz.f5 false true false false) := by
  have hok : Input.okWideB Tryz.checked.prog ((startW os).forCall (fun _ _ => 0) ⟨#[], #[.int .i64 0, .int .i64 0, .string .empty, .slice none 0 0, .bool false], []⟩) 5 ⟨#[], #[.int .i64 0, .int .i64 0, .string .empty, .slice none 0 0, .bool false], []⟩ = true := by kernel_rfl
  refine returnsInHanded_of_calls own started (by kernel_rfl) ⟨startW os, fun _ _ => 0, ⟨#[], #[.int .i64 0, .int .i64 0, .string .empty, .slice none 0 0, .bool false], []⟩, rfl, World.shaped_of_RefB (by kernel_rfl) (by kernel_rfl), (Input.okWide_of_okWideB (base := 0) hok).1, (Input.okWide_of_okWideB hok).2,
    ⟨⟨(OpenSpec.pre_some (s := Rows.OpenSpec.upto Rows.shellWordsSpec) (k := Rows.uptoSmall) rfl _ _ _ _).2 ⟨[.lit (.int .i64 0), .lit (.int .i64 0), .lit (.string []), .nil, .lit (.bool false)], [], [], DataW.Whole_of_whole (x := ([.lit (.int .i64 0), .lit (.int .i64 0), .lit (.string []), .nil, .lit (.bool false)], [], [])) (fuel := 8) (by kernel_rfl), rfl, by kernel_rfl⟩, door_met os _⟩, sizedMet_of_sizedB (s := Rows.shellWordsSpec) (fuel := 8) (by kernel_rfl)⟩, by
      simp only [Assume.holds]
      exact ⟨by simp, by simp, fun _ => Modest.zero, by simp, by simp⟩⟩ ?_
  intro w tape i _ _ _ hok hpre _
  obtain ⟨_, _, _, fn', hfn', _, _, _, _, hval⟩ := hok
  obtain rfl : fn' = Tryz.f5 := Option.some.inj (hfn'.symm.trans Tryz.func5)
  obtain ⟨⟨hp1, hL⟩, _⟩ := hpre
  obtain ⟨ds, gs, before, hw, hk⟩ := pre_u hp1
  have hW := DataW.Whole.of_heap (w' := w.forCall tape i) (by rfl) hw
  have hL' : laidMetH Tryz.prog Rows.shellWordsUptoRow.laid (w.forCall tape i) := hL.of_heap (by rfl)
  have hW' := hW
  obtain ⟨p, q, hA, hV, rfl, _, _⟩ := hW
  obtain ⟨rfl, rfl⟩ := trodVars_none hV
  have hb : Rows.uptoBulkAll ds ≤ 1048576 := by rwa [List.append_nil] at hk
  refine (contract (w.forCall tape i) w.heap.size i.args ds p hval hA hb (tab_met hL')).mono fun e W' ⟨he, hb⟩ => ?_
  subst he
  exact ChangeSpec.post_blind (law_post spec rfl Tryz.underlying4 (by kernel_rfl) (fun t ht => by
      have hall : (Tryz.f5.params.toList.all fun t => Tryz.prog.readableRec t && decide (t < Tryz.prog.types.size)) = true := by kernel_rfl
      rw [List.all_eq_true] at hall
      have := hall t ht
      rw [Bool.and_eq_true] at this
      exact ⟨this.1, of_decide_eq_true this.2⟩) hW' hb)

end Go.Proofs.YtnbfhihibgdgpaaGreatDoor.shellWordsUpto
