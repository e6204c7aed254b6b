/- The first part of what follows: the contract, lifted. -/
import Derived.Test.YtnbfhihibgdgpaaGreatDoorRows
import Derived.ChangeMaps5
import Derived.ChangeSame
import Derived.ChangeArms
import Derived.Test.YtnbfhihibgdgpaaGreatDoorCards
import Derived.Test.YtnbfhihibgdgpaaGreatDoorTie
import Derived.ProofKit
import Derived.LaidMore
import Derived.OpenShut
import Derived.Stop.Joined
import Derived.Stop.LaidErr
import Derived.SevenTiedAt
import Derived.Lib.LaidTab
import Derived.Test.YtnbfhihibgdgpaaGreatDoorLlawShr
namespace Go.Proofs.YtnbfhihibgdgpaaGreatDoor.shellRuns
open Go.Ev Go.Sy Go.ChangeShapes Go.WideShapes Go.ChangeAt Go.RowKit

theorem own : ownKnob Tryz.prog.godebug = none := by kernel_rfl

theorem spec : LawSpec Rows.shellRunsSpec 0 := by
  refine ⟨rfl, fun H ds h => ?_⟩
  match ds, h with
  | [], _ => exact ⟨rfl, rfl, rfl⟩

def okD {H : Type} (_ : DataW H) : Prop := True
def okN (_ : Nat) : Prop := True
theorem okb {H : Type} : OkB (H := H) okD okN := ⟨trivial, fun _ _ => trivial, fun _ _ _ _ => trivial, fun _ _ _ _ _ => trivial, fun _ _ _ => trivial⟩

/-- The door's own heap, and the table that is laid by its text alone. -/
noncomputable def startW (os : Os) : World :=
  { World.doorLaid Tryz.prog 8000 os with heap :=
    match (Tryz.prog.globalNamed "unicode/utf8.first") with
    | some g => (match (World.doorLaid Tryz.prog 8000 os).heap[g]? with
      | some (.cells _ e fr) => (World.doorLaid Tryz.prog 8000 os).heap.setIfInBounds g (.cells (Pinned.utf8FirstZ.map fun z : Nat => Value.int .u8 (z : Int)).toArray e fr)
      | _ => (World.doorLaid Tryz.prog 8000 os).heap)
    | none => (World.doorLaid Tryz.prog 8000 os).heap }

theorem door_met (os : Os) (args : Array Value) : laidMetH Tryz.prog Rows.shellRunsRow.laid ((startW os).forCall (fun _ _ => 0) ⟨#[], args, []⟩).memory :=
  laidMetH_of_parts3 (fuel := 8) (laidMet_of_run' 8 (by kernel_rfl) (by kernel_rfl)) (by kernel_rfl) (by kernel_rfl)
theorem tabIs_of_laid {P : Program} {W : World} {x : String × DataW Unit} {rest : List (String × DataW Unit)} {g : Nat} {t e : TypeId} {n : Nat}
    (hg : P.globalNamed x.1 = some g) (hty : (P.globals[g]?).map (·.type) = some t) (ht : P.underlying t = some (.array n e)) (he : P.underlying e = some (.int .u64)) (hce : P.cellsOf e = 1) (hct : P.cellsOf t = n)
    (hx : x.2 = Lib.tabData .u64 Lib.pow10Tab) (h : laidMet P (x :: rest) W) : ∃ ee fr, W.heap[g]? = some (.cells (Lib.pow10Tab.map fun z => Value.int .u64 z).toArray ee fr) := by
  obtain ⟨a, b⟩ := x
  simp only at hx hg
  subst hx
  have := Lib.tabIs_of_head hg hty ht he hce hct h
  unfold Lib.TabIs World.var? at this
  rw [hg] at this
  simp only [Option.bind_some] at this
  split at this
  · rename_i cs e0 fr hc
    simp only [Option.some.injEq] at this
    subst this
    exact ⟨e0, fr, hc⟩
  · simp at this
theorem tab_met {W : World} (h : laidMetH Tryz.prog Rows.shellRunsRow.laid W) : TabW W := by
  rw [MakeChecks.laidMetH_plain _ _ _ (by kernel_rfl)] at h
  obtain ⟨e, fr, hh⟩ := tabIs_of_laid (g := 0) (t := 193) (e := 107) (n := 20) (by kernel_rfl) (by kernel_rfl) (by kernel_rfl) (by kernel_rfl) (by kernel_rfl) (by kernel_rfl) (by kernel_rfl) h.tail.tail
  intro g hg
  have : tabNo = some 0 := by kernel_rfl
  rw [this] at hg
  obtain rfl := Option.some.inj hg
  exact ⟨e, fr, hh.trans (congrArg some (show Obj.cells _ e fr = Obj.cells tabCells e fr by kernel_rfl))⟩

set_option maxRecDepth 100000 in
theorem contract {H : Type} {enc : TypeId × Value → H} (W : World) (base : Nat) (args : Array Value) (ds : List (DataW H)) (p : List MemPlace)
    (hval : ∀ (j : Nat) t v, Tryz.f3.params[j]? = some t → args[j]? = some v → Value.okWide Tryz.prog W .any base t v)
    (hA : DataW.TrodAll enc Tryz.prog W 0 (fun _ => true) true Tryz.f3.params.toList args.toList ds p) (hT : TabW W) :
    Calls Tryz.prog 3 args W fun e W' => e = .returned (.bool true) ∧ Below W.heap.size W W' := by
  rw [Tryz.params3] at hA hval
  obtain ⟨e0, rfl, rfl⟩ := trodAll_nil hA
  obtain rfl : args = #[] := by cases args; simp_all
  exact law_con (by kernel_rfl) (L := []) (I := []) (Nat.le_of_ble_eq_true rfl) (Go.Proofs.YtnbfhihibgdgpaaGreatDoor.cr.shr_law  ) lr_nil rfl .nil hT

set_option maxRecDepth 100000 in
theorem lifted (os : Os) (started : os.Started) (H : Type) (enc : TypeId × Value → H) :
    ReturnsInHanded {} Tryz.checked os 3 .any (fun w args => (Rows.shellRunsSpec.pre enc Tryz.prog Tryz.f3 [] false w args ∧ laidMetH Tryz.prog Rows.shellRunsRow.laid w) ∧ sizedMet enc Tryz.prog Tryz.f3 (OpenSpec.ofChange Rows.shellRunsSpec) false w args)
      (Rows.shellRunsSpec.post enc Tryz.prog Tryz.f3 false true false false) := by
  refine returnsInHanded_of_change_and (C := Tryz.checked) (X := fun w _ => laidMetH Tryz.prog Rows.shellRunsRow.laid w) (fun _ _ _ hh h => h.of_heap hh) own started (by kernel_rfl) Tryz.func3
    (ChangeSpec.witness_shaped (enc := enc) (C := Tryz.checked) (os := os) (X := fun w _ => laidMetH Tryz.prog Rows.shellRunsRow.laid w) false (startW os) #[] 8 rfl (World.shaped_of_RefB (by kernel_rfl) (by kernel_rfl)) (by kernel_rfl) (by kernel_rfl) (by kernel_rfl) (door_met os _)) ?_
  intro W base args ds gs before hval hW _ _ hL _
  have hW' := hW
  obtain ⟨p, q, hA, hV, rfl, _, _⟩ := hW
  obtain ⟨rfl, rfl⟩ := trodVars_none hV
  refine (contract W base args ds p hval hA (tab_met hL)).mono fun e W' ⟨he, hb⟩ => ?_
  exact ⟨_, he, law_post spec rfl Tryz.underlying4 (by kernel_rfl) (fun t ht => by
      have hall : (Tryz.f3.params.toList.all fun t => Tryz.prog.readableRec t && decide (t < Tryz.prog.types.size)) = true := by kernel_rfl
      rw [List.all_eq_true] at hall
      have := hall t ht
      rw [Bool.and_eq_true] at this
      exact ⟨this.1, of_decide_eq_true this.2⟩) hW' hb⟩

end Go.Proofs.YtnbfhihibgdgpaaGreatDoor.shellRuns
