/- The first part of what follows: the contract, lifted. -/
import Derived.Test.YtnglilhmfhmhjaaGreatDoorRows
import Derived.ChangeMaps5
import Derived.ChangeSame
import Derived.ChangeArms
import Derived.Test.YtnglilhmfhmhjaaGreatDoorCards
import Derived.Test.YtnglilhmfhmhjaaGreatDoorTie
import Derived.ProofKit
import Derived.LaidMore
import Derived.OpenShut
import Derived.Stop.Joined
import Derived.Stop.LaidErr
import Derived.SevenTiedAt
import Derived.Lib.LaidTab
import Derived.Test.YtnglilhmfhmhjaaGreatDoorLlawSn
namespace Go.Proofs.YtnglilhmfhmhjaaGreatDoor.scriptNobody
open Go.Ev Go.Sy Go.ChangeShapes Go.WideShapes Go.ChangeAt Go.RowKit

theorem own : ownKnob Tryz.prog.godebug = none := by kernel_rfl

theorem spec : LawSpec Rows.scriptNobodySpec 2 := by
  refine ⟨rfl, fun H ds h => ?_⟩
  match ds, h with
  | [_, _], _ => exact ⟨rfl, rfl, rfl⟩

def okD {H : Type} (_ : DataW H) : Prop := True
def okN (_ : Nat) : Prop := True
theorem okb {H : Type} : OkB (H := H) okD okN := ⟨trivial, fun _ _ => trivial, fun _ _ _ _ => trivial, fun _ _ _ _ _ => trivial, fun _ _ _ => trivial⟩

theorem door_met (os : Os) (args : Array Value) : laidMetH Tryz.prog Rows.scriptNobodyRow.laid ((World.doorLaid Tryz.prog 4000 os).forCall (fun _ _ => 0) ⟨#[], args, []⟩).memory :=
  laidMetH_of_parts3 (fuel := 8) (laidMet_of_run' 8 (by kernel_rfl) (by kernel_rfl)) (by kernel_rfl) (by kernel_rfl)
theorem tabIs_of_laid {P : Program} {W : World} {x : String × DataW Unit} {rest : List (String × DataW Unit)} {g : Nat} {t e : TypeId} {n : Nat}
    (hg : P.globalNamed x.1 = some g) (hty : (P.globals[g]?).map (·.type) = some t) (ht : P.underlying t = some (.array n e)) (he : P.underlying e = some (.int .u64)) (hce : P.cellsOf e = 1) (hct : P.cellsOf t = n)
    (hx : x.2 = Lib.tabData .u64 Lib.pow10Tab) (h : laidMet P (x :: rest) W) : ∃ ee fr, W.heap[g]? = some (.cells (Lib.pow10Tab.map fun z => Value.int .u64 z).toArray ee fr) := by
  obtain ⟨a, b⟩ := x
  simp only at hx hg
  subst hx
  have := Lib.tabIs_of_head hg hty ht he hce hct h
  unfold Lib.TabIs World.var? at this
  rw [hg] at this
  simp only [Option.bind_some] at this
  split at this
  · rename_i cs e0 fr hc
    simp only [Option.some.injEq] at this
    subst this
    exact ⟨e0, fr, hc⟩
  · simp at this
theorem tab_met {W : World} (h : laidMetH Tryz.prog Rows.scriptNobodyRow.laid W) : TabW W := by
  rw [MakeChecks.laidMetH_plain _ _ _ (by kernel_rfl)] at h
  obtain ⟨e, fr, hh⟩ := tabIs_of_laid (g := 0) (t := 415) (e := 404) (n := 20) (by kernel_rfl) (by kernel_rfl) (by kernel_rfl) (by kernel_rfl) (by kernel_rfl) (by kernel_rfl) (by kernel_rfl) h.tail.tail
  intro g hg
  have : tabNo = some 0 := by kernel_rfl
  rw [this] at hg
  obtain rfl := Option.some.inj hg
  exact ⟨e, fr, hh.trans (congrArg some (show Obj.cells _ e fr = Obj.cells tabCells e fr by kernel_rfl))⟩

set_option maxRecDepth 100000 in
theorem contract {H : Type} {enc : TypeId × Value → H} (W : World) (base : Nat) (args : Array Value) (ds : List (DataW H)) (p : List MemPlace)
    (hval : ∀ (j : Nat) t v, Tryz.f6.params[j]? = some t → args[j]? = some v → Value.okWide Tryz.prog W .any base t v)
    (hA : DataW.TrodAll enc Tryz.prog W 0 (fun _ => true) true Tryz.f6.params.toList args.toList ds p) (hT : TabW W) :
    Calls Tryz.prog 6 args W fun e W' => e = .returned (.bool true) ∧ Below W.heap.size W W' := by
  rw [Tryz.params6] at hA hval
  obtain ⟨v0, vs0, d0, ds0, p0, q0, hargs, rfl, rfl, h0, r0⟩ := trodAll_cons hA
  obtain ⟨v1, vs1, d1, ds1, p1, q1, rfl, rfl, rfl, h1, r1⟩ := trodAll_cons r0
  obtain ⟨rfl, rfl, rfl⟩ := trodAll_nil r1
  obtain rfl : args = #[v0, v1] := by cases args; simp_all
  obtain ⟨cs0, rfl, hc0⟩ := struct_arg (ok := okD) (Q := okN) (k2 := [.p (.i .i64), .p (.f .f64), .p (.i .i64), .p (.i .i64), .p (.i .i64), .p (.i .i64), .p (.i .i64)]) (ts := [3, 26, 3, 3, 3, 3, 3]) (d0 := 8) okb Tryz.underlying30 (by kernel_rfl) (by kernel_rfl) (by kernel_rfl) (by kernel_rfl) (by kernel_rfl) (hval 0 30 v0 rfl rfl) h0 trivial
  obtain ⟨e0_0, e0_1, e0_2, e0_3, e0_4, e0_5, e0_6, rfl⟩ : ∃ e0_0 e0_1 e0_2 e0_3 e0_4 e0_5 e0_6, cs0 = [e0_0, e0_1, e0_2, e0_3, e0_4, e0_5, e0_6] := by
    match cs0, hc0 with
    | [x0, x1, x2, x3, x4, x5, x6], _ => exact ⟨x0, x1, x2, x3, x4, x5, x6, rfl⟩
  obtain ⟨f0_0, f0_1, f0_2, f0_3, f0_4, f0_5, f0_6, _⟩ := hc0
  obtain ⟨a0_0, rfl, w0_0⟩ := cq_i f0_0
  obtain ⟨a0_1, rfl⟩ := cq_f f0_1
  obtain ⟨a0_2, rfl, w0_2⟩ := cq_i f0_2
  obtain ⟨a0_3, rfl, w0_3⟩ := cq_i f0_3
  obtain ⟨a0_4, rfl, w0_4⟩ := cq_i f0_4
  obtain ⟨a0_5, rfl, w0_5⟩ := cq_i f0_5
  obtain ⟨a0_6, rfl, w0_6⟩ := cq_i f0_6
  obtain ⟨L1, i1, J1, hrow1, hL1, hJ1, hm1, hq1, hvr1⟩ := sliceG_arg (ok := okD) (Q := okN) (ks := [.p (.i .i64), .p (.i .i64), .p (.i .i64), .p (.i .i64), .sl 34 47 [.s, .s, .i .i64], .p (.s), .p (.b)]) (d0 := 8) okb Tryz.underlying52 (by kernel_rfl) (by kernel_rfl) (by decide) (hval 1 52 v1 rfl rfl) h1 trivial
  obtain ⟨a1, hl1, he1, w1⟩ := Go.Proofs.YtnglilhmfhmhjaaGreatDoor.sn.gs_of (Q := okN) hL1
  rw [he1] at hrow1
  rw [← hl1] at hm1 hq1 hvr1
  exact law_conG (by kernel_rfl) (L := [(Go.Proofs.YtnglilhmfhmhjaaGreatDoor.gl.gC Go.Proofs.YtnglilhmfhmhjaaGreatDoor.sn.enS7 a1)]) (I := [i1]) (J := J1) (Nat.le_of_ble_eq_true rfl) (Go.Proofs.YtnglilhmfhmhjaaGreatDoor.sn.Sn_law2 a0_0 a0_1 a0_2 a0_3 a0_4 a0_5 a0_6 a1 (Sy.wf64 w0_0) (Sy.wf64 w0_2) (Sy.wf64 w0_3) (Sy.wf64 w0_4) (Sy.wf64 w0_5) (Sy.wf64 w0_6) hm1 w1) (lrg_cons (hrow1.mono (fun x hx => by simp [hx])) lrg_nil) rfl (fun x hx => by (try simp only [List.mem_append] at hx); exact hJ1 x hx) (VRs.cons (VRs.agg (VRs.cons (VR.int _ _) (VRs.cons (plain_refl 12 _ rfl) (VRs.cons (VR.int _ _) (VRs.cons (VR.int _ _) (VRs.cons (VR.int _ _) (VRs.cons (VR.int _ _) (VRs.cons (VR.int _ _) .nil)))))))) (VRs.cons (hvr1 _ 0 rfl) .nil)) hT

set_option maxRecDepth 100000 in
theorem lifted (os : Os) (started : os.Started) (H : Type) (enc : TypeId × Value → H) :
    ReturnsInHanded {} Tryz.checked os 6 .any (fun w args => (Rows.scriptNobodySpec.pre enc Tryz.prog Tryz.f6 [] false w args ∧ laidMetH Tryz.prog Rows.scriptNobodyRow.laid w) ∧ sizedMet enc Tryz.prog Tryz.f6 (OpenSpec.ofChange Rows.scriptNobodySpec) false w args)
      (Rows.scriptNobodySpec.post enc Tryz.prog Tryz.f6 false true false false) := by
  refine returnsInHanded_of_change_and (C := Tryz.checked) (X := fun w _ => laidMetH Tryz.prog Rows.scriptNobodyRow.laid w) (fun _ _ _ hh h => h.of_heap hh) own started (by kernel_rfl) Tryz.func6
    (ChangeSpec.witness_shaped (enc := enc) (C := Tryz.checked) (os := os) (X := fun w _ => laidMetH Tryz.prog Rows.scriptNobodyRow.laid w) false (World.doorLaid Tryz.prog 4000 os) #[.agg #[.int .i64 0, .float .f64 0, .int .i64 0, .int .i64 0, .int .i64 0, .int .i64 0, .int .i64 0], .slice none 0 0] 8 rfl (World.shaped_of_RefB (by kernel_rfl) (by kernel_rfl)) (by kernel_rfl) (by kernel_rfl) (by kernel_rfl) (door_met os _)) ?_
  intro W base args ds gs before hval hW _ _ hL _
  have hW' := hW
  obtain ⟨p, q, hA, hV, rfl, _, _⟩ := hW
  obtain ⟨rfl, rfl⟩ := trodVars_none hV
  refine (contract W base args ds p hval hA (tab_met hL)).mono fun e W' ⟨he, hb⟩ => ?_
  exact ⟨_, he, law_post spec rfl Tryz.underlying4 (by kernel_rfl) (fun t ht => by
      have hall : (Tryz.f6.params.toList.all fun t => Tryz.prog.readableRec t && decide (t < Tryz.prog.types.size)) = true := by kernel_rfl
      rw [List.all_eq_true] at hall
      have := hall t ht
      rw [Bool.and_eq_true] at this
      exact ⟨this.1, of_decide_eq_true this.2⟩) hW' hb⟩

end Go.Proofs.YtnglilhmfhmhjaaGreatDoor.scriptNobody
