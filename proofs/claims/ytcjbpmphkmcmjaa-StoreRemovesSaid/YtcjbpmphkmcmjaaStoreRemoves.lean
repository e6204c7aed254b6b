/- The law StoreRemoves of the program returns true, whatever the arguments, whatever the world; the arguments and what else was there stay. -/
import Derived.Test.YtcjbpmphkmcmjaaRows
import Derived.ChangeMaps5
import Derived.ChangeSame
import Derived.ChangeArms
import Derived.Test.YtcjbpmphkmcmjaaLsoU
namespace Go.Proofs.Ytcjbpmphkmcmjaa.storeRemoves
open Go.Ev Go.Sy Go.ChangeShapes Go.WideShapes Go.ChangeAt Go.RowKit

theorem own : ownKnob Try.prog.godebug = none := by kernel_rfl

theorem spec : LawSpec Rows.storeRemovesSpec 2 := by
  refine ⟨rfl, fun H ds h => ?_⟩
  match ds, h with
  | [_, _], _ => exact ⟨rfl, rfl, rfl⟩

def okD {H : Type} (_ : DataW H) : Prop := True
def okN (_ : Nat) : Prop := True
theorem okb {H : Type} : OkB (H := H) okD okN := ⟨trivial, fun _ _ => trivial, fun _ _ _ _ => trivial, fun _ _ _ _ _ => trivial, fun _ _ _ => trivial⟩
theorem hT0 (W : World) : TabW W := fun g hg => by simp [tabNo] at hg

set_option maxRecDepth 100000 in
theorem contract {H : Type} {enc : TypeId × Value → H} (W : World) (base : Nat) (args : Array Value) (ds : List (DataW H)) (p : List MemPlace)
    (hval : ∀ (j : Nat) t v, Try.f7.params[j]? = some t → args[j]? = some v → Value.okWide Try.prog W .any base t v)
    (hA : DataW.TrodAll enc Try.prog W 0 (fun _ => true) true Try.f7.params.toList args.toList ds p) (hT : TabW W) :
    Calls Try.prog 7 args W fun e W' => e = .returned (.bool true) ∧ Below W.heap.size W W' := by
  rw [Try.params7] at hA hval
  obtain ⟨v0, vs0, d0, ds0, p0, q0, hargs, rfl, rfl, h0, r0⟩ := trodAll_cons hA
  obtain ⟨v1, vs1, d1, ds1, p1, q1, rfl, rfl, rfl, h1, r1⟩ := trodAll_cons r0
  obtain ⟨rfl, rfl, rfl⟩ := trodAll_nil r1
  obtain rfl : args = #[v0, v1] := by cases args; simp_all
  obtain ⟨n0, c0, i0, hrow0, hel0, hm0, hq0, hvr0⟩ := slice_arg (ok := okD) (Q := okN) (ks := [.i .i64]) (d0 := 8) okb Try.underlying58 (by kernel_rfl) (by kernel_rfl) (by decide) (hval 0 58 v0 rfl rfl) h0 trivial
  obtain ⟨a0, hl0, rfl, w0⟩ := elems_ints hel0.elems
  subst hl0
  obtain ⟨a1, rfl, rfl, rfl, w1⟩ := open_int Try.underlying3 (hval 1 3 v1 rfl rfl) h1
  exact law_con (by kernel_rfl) (L := [(iCells .i64 a0)]) (I := [i0]) (Nat.le_of_ble_eq_true rfl) (Go.Proofs.Ytcjbpmphkmcmjaa.so.Rl_law2 a0 a1 hm0 w0 (Sy.wf64 w1)) (lr_cons hrow0 lr_nil) rfl (VRs.cons (hvr0 _ 0 rfl) (VRs.cons (VR.int _ _) .nil)) hT

set_option maxRecDepth 100000 in
theorem lifted (os : Os) (started : os.Started) (H : Type) (enc : TypeId × Value → H) :
    ReturnsInHanded {} Try.checked os 7 .any (Rows.storeRemovesSpec.pre6 enc Try.prog Try.f7 Rows.storeRemovesRow.domain false) (Rows.storeRemovesSpec.post enc Try.prog Try.f7 false true false false) := by
  refine law_lifted (C := Try.checked) own started (by kernel_rfl) Try.func7
    (ChangeSpec.witness6 (enc := enc) (C := Try.checked) false ⟨#[], #[.slice none 0 0, .int .i64 0], []⟩ 8 (by kernel_rfl) (by kernel_rfl) (by kernel_rfl) (by kernel_rfl))
    spec rfl Try.underlying4 (by kernel_rfl) (fun t ht => by
      have hall : (Try.f7.params.toList.all fun t => Try.prog.readableRec t && decide (t < Try.prog.types.size)) = true := by kernel_rfl
      rw [List.all_eq_true] at hall
      have := hall t ht
      rw [Bool.and_eq_true] at this
      exact ⟨this.1, of_decide_eq_true this.2⟩) ?_
  intro W base args ds p hval hA
  exact contract W base args ds p hval hA (hT0 W)

theorem over : Rows.storeRemovesRow.holds Try.pinned (OpenSpec.ofChange Rows.storeRemovesSpec) :=
  OpenClaim.holds_of_wide 7 Try.f7 rfl rfl rfl rfl rfl rfl rfl ⟨rfl, rfl, rfl, rfl, rfl⟩ rfl rfl rfl rfl rfl (by kernel_rfl) Try.func7 (by kernel_rfl)
    (of_decide_eq_true (by kernel_rfl)) (by unfold Func.isWrapper; first | (rw [if_pos (by decide +kernel)]; kernel_rfl) | (rw [if_neg (by decide +kernel)]; exact ⟨rfl, rfl⟩))
    (fun os started H enc _ => lifted os started H enc)

theorem proved : Rows.StoreRemovesSaid :=
  over
end Go.Proofs.Ytcjbpmphkmcmjaa.storeRemoves
