/- The law ProxyClock of the program returns true, whatever the arguments, whatever the world; the arguments and what else was there stay. -/
import Derived.Test.YthbibcgghdodaaaGreatDoorRows
import Derived.ChangeMaps5
import Derived.ChangeSame
import Derived.ChangeArms
import Derived.Test.YthbibcgghdodaaaGreatDoorCards
import Derived.Test.YthbibcgghdodaaaGreatDoorTie
import Derived.ProofKit
import Derived.LaidMore
import Derived.OpenShut
import Derived.Stop.Joined
import Derived.Stop.LaidErr
import Derived.SevenTiedAt
import Derived.Lib.LaidTab
import Derived.Test.YthbibcgghdodaaaGreatDoorLprK
namespace Go.Proofs.YthbibcgghdodaaaGreatDoor.proxyClock
open Go.Ev Go.Sy Go.ChangeShapes Go.WideShapes Go.ChangeAt Go.RowKit

theorem own : ownKnob Tryz.prog.godebug = none := by kernel_rfl

theorem spec : LawSpec Rows.proxyClockSpec 1 := by
  refine ⟨rfl, fun H ds h => ?_⟩
  match ds, h with
  | [_], _ => exact ⟨rfl, rfl, rfl⟩

def okD {H : Type} (_ : DataW H) : Prop := True
def okN (_ : Nat) : Prop := True
theorem okb {H : Type} : OkB (H := H) okD okN := ⟨trivial, fun _ _ => trivial, fun _ _ _ _ => trivial, fun _ _ _ _ _ => trivial, fun _ _ _ => trivial⟩

theorem door_met (os : Os) (args : Array Value) : laidMetH Tryz.prog Rows.proxyClockRow.laid ((World.doorLaid Tryz.prog 4000 os).forCall (fun _ _ => 0) ⟨#[], args, []⟩).memory :=
  laidMetH_of_parts3 (fuel := 8) (laidMet_of_run' 8 (by kernel_rfl) (by kernel_rfl)) (by kernel_rfl) (by kernel_rfl)
theorem tabIs_of_laid {P : Program} {W : World} {x : String × DataW Unit} {rest : List (String × DataW Unit)} {g : Nat} {t e : TypeId} {n : Nat}
    (hg : P.globalNamed x.1 = some g) (hty : (P.globals[g]?).map (·.type) = some t) (ht : P.underlying t = some (.array n e)) (he : P.underlying e = some (.int .u64)) (hce : P.cellsOf e = 1) (hct : P.cellsOf t = n)
    (hx : x.2 = Lib.tabData .u64 Lib.pow10Tab) (h : laidMet P (x :: rest) W) : ∃ ee fr, W.heap[g]? = some (.cells (Lib.pow10Tab.map fun z => Value.int .u64 z).toArray ee fr) := by
  obtain ⟨a, b⟩ := x
  simp only at hx hg
  subst hx
  have := Lib.tabIs_of_head hg hty ht he hce hct h
  unfold Lib.TabIs World.var? at this
  rw [hg] at this
  simp only [Option.bind_some] at this
  split at this
  · rename_i cs e0 fr hc
    simp only [Option.some.injEq] at this
    subst this
    exact ⟨e0, fr, hc⟩
  · simp at this
theorem tab_met {W : World} (h : laidMetH Tryz.prog Rows.proxyClockRow.laid W) : TabW W := by
  rw [MakeChecks.laidMetH_plain _ _ _ (by kernel_rfl)] at h
  obtain ⟨e, fr, hh⟩ := tabIs_of_laid (g := 0) (t := 333) (e := 319) (n := 20) (by kernel_rfl) (by kernel_rfl) (by kernel_rfl) (by kernel_rfl) (by kernel_rfl) (by kernel_rfl) (by kernel_rfl) h.tail.tail
  intro g hg
  have : tabNo = some 0 := by kernel_rfl
  rw [this] at hg
  obtain rfl := Option.some.inj hg
  exact ⟨e, fr, hh.trans (congrArg some (show Obj.cells _ e fr = Obj.cells tabCells e fr by kernel_rfl))⟩

set_option maxRecDepth 100000 in
theorem contract {H : Type} {enc : TypeId × Value → H} (W : World) (base : Nat) (args : Array Value) (ds : List (DataW H)) (p : List MemPlace)
    (hval : ∀ (j : Nat) t v, Tryz.f5.params[j]? = some t → args[j]? = some v → Value.okWide Tryz.prog W .any base t v)
    (hA : DataW.TrodAll enc Tryz.prog W 0 (fun _ => true) true Tryz.f5.params.toList args.toList ds p) (hT : TabW W) :
    Calls Tryz.prog 5 args W fun e W' => e = .returned (.bool true) ∧ Below W.heap.size W W' := by
  rw [Tryz.params5] at hA hval
  obtain ⟨v0, vs0, d0, ds0, p0, q0, hargs, rfl, rfl, h0, r0⟩ := trodAll_cons hA
  obtain ⟨rfl, rfl, rfl⟩ := trodAll_nil r0
  obtain rfl : args = #[v0] := by cases args; simp_all
  obtain ⟨n0, c0, i0, hrow0, hel0, hm0, hq0, hvr0⟩ := slice_arg (ok := okD) (Q := okN) (ks := [.i .i64]) (d0 := 8) okb Tryz.underlying70 (by kernel_rfl) (by kernel_rfl) (by decide) (hval 0 70 v0 rfl rfl) h0 trivial
  obtain ⟨a0, hl0, rfl, w0⟩ := elems_ints hel0.elems
  subst hl0
  exact law_con (by kernel_rfl) (L := [(iCells .i64 a0)]) (I := [i0]) (Nat.le_of_ble_eq_true rfl) (Go.Proofs.YthbibcgghdodaaaGreatDoor.pk.pk_law a0 hm0 w0) (lr_cons hrow0 lr_nil) rfl (VRs.cons (hvr0 _ 0 rfl) .nil) hT

set_option maxRecDepth 100000 in
theorem lifted (os : Os) (started : os.Started) (H : Type) (enc : TypeId × Value → H) :
    ReturnsInHanded {} Tryz.checked os 5 .any (fun w args => (Rows.proxyClockSpec.pre enc Tryz.prog Tryz.f5 [] false w args ∧ laidMetH Tryz.prog Rows.proxyClockRow.laid w) ∧ sizedMet enc Tryz.prog Tryz.f5 (OpenSpec.ofChange Rows.proxyClockSpec) false w args)
      (Rows.proxyClockSpec.post enc Tryz.prog Tryz.f5 false true false false) := by
  refine returnsInHanded_of_change_and (C := Tryz.checked) (X := fun w _ => laidMetH Tryz.prog Rows.proxyClockRow.laid w) (fun _ _ _ hh h => h.of_heap hh) own started (by kernel_rfl) Tryz.func5
    (ChangeSpec.witness_shaped (enc := enc) (C := Tryz.checked) (os := os) (X := fun w _ => laidMetH Tryz.prog Rows.proxyClockRow.laid w) false (World.doorLaid Tryz.prog 4000 os) #[.slice none 0 0] 8 rfl (World.shaped_of_RefB (by kernel_rfl) (by kernel_rfl)) (by kernel_rfl) (by kernel_rfl) (by kernel_rfl) (door_met os _)) ?_
  intro W base args ds gs before hval hW _ _ hL _
  have hW' := hW
  obtain ⟨p, q, hA, hV, rfl, _, _⟩ := hW
  obtain ⟨rfl, rfl⟩ := trodVars_none hV
  refine (contract W base args ds p hval hA (tab_met hL)).mono fun e W' ⟨he, hb⟩ => ?_
  exact ⟨_, he, law_post spec rfl Tryz.underlying4 (by kernel_rfl) (fun t ht => by
      have hall : (Tryz.f5.params.toList.all fun t => Tryz.prog.readableRec t && decide (t < Tryz.prog.types.size)) = true := by kernel_rfl
      rw [List.all_eq_true] at hall
      have := hall t ht
      rw [Bool.and_eq_true] at this
      exact ⟨this.1, of_decide_eq_true this.2⟩) hW' hb⟩

theorem over : Rows.ProxyClockSaid :=
  OpenClaim.holds_of_wide 5 Tryz.f5 rfl rfl rfl rfl rfl rfl rfl ⟨rfl, rfl, rfl, rfl, rfl⟩ rfl rfl rfl rfl rfl (by kernel_rfl) Tryz.func5 (by kernel_rfl)
    (of_decide_eq_true (by kernel_rfl)) (by unfold Func.isWrapper; first | (rw [if_pos (by decide +kernel)]; kernel_rfl) | (rw [if_neg (by decide +kernel)]; exact ⟨rfl, rfl⟩))
    (fun os started H enc _ => lifted os started H enc)

theorem proved : Rows.ProxyClockCardSaid :=
  Claim7.holds_tied_plain_at .later [] [.data, .data, .data] true Rows.proxyClockCard.stood.harness true
    over (fun _ h => by cases h) (by kernel_rfl) (fun _ h => by cases h) proxyClock_row_tie rfl ⟨rfl, rfl⟩ (by kernel_rfl) rfl
    (fun f fn hf hfn => by
      obtain rfl : 5 = f := Option.some.inj (Eq.trans (Eq.symm (by kernel_rfl)) hf)
      obtain rfl : fn = Tryz.f5 := (Option.some.inj (Tryz.func5.symm.trans hfn)).symm
      exact ⟨by kernel_rfl, fun j t ht => by
        rw [Tryz.params5] at ht
        have hall : (([70] : List TypeId).all fun u => !Tryz.prog.wantsStandIn u) = true := by kernel_rfl
        have hm : t ∈ ([70] : List TypeId) := by simpa using Array.mem_of_getElem? ht
        exact (show Tryz.prog.wantsStandIn t = false by simpa using List.all_eq_true.1 hall t hm)⟩)
    (by kernel_rfl)
end Go.Proofs.YthbibcgghdodaaaGreatDoor.proxyClock
