/- The law ConnPings of the program returns true, whatever the arguments, whatever the world; the arguments and what else was there stay. -/
import Derived.Test.YtcallecdjebojaaGreatRows
import Derived.ChangeMaps5
import Derived.ChangeSame
import Derived.ChangeArms
import Derived.Test.YtcallecdjebojaaGreatLcpP
namespace Go.Proofs.YtcallecdjebojaaGreat.connPings
open Go.Ev Go.Sy Go.ChangeShapes Go.WideShapes Go.ChangeAt Go.RowKit

theorem own : ownKnob Tryz.prog.godebug = none := by kernel_rfl

theorem spec : LawSpec Rows.connPingsSpec 2 := by
  refine ⟨rfl, fun H ds h => ?_⟩
  match ds, h with
  | [_, _], _ => exact ⟨rfl, rfl, rfl⟩

def okD {H : Type} (_ : DataW H) : Prop := True
def okN (_ : Nat) : Prop := True
theorem okb {H : Type} : OkB (H := H) okD okN := ⟨trivial, fun _ _ => trivial, fun _ _ _ _ => trivial, fun _ _ _ _ _ => trivial, fun _ _ _ => trivial⟩
theorem hT0 (W : World) : TabW W := fun g hg => by simp [tabNo] at hg

set_option maxRecDepth 100000 in
theorem contract {H : Type} {enc : TypeId × Value → H} (W : World) (base : Nat) (args : Array Value) (ds : List (DataW H)) (p : List MemPlace)
    (hval : ∀ (j : Nat) t v, Tryz.f7.params[j]? = some t → args[j]? = some v → Value.okWide Tryz.prog W .any base t v)
    (hA : DataW.TrodAll enc Tryz.prog W 0 (fun _ => true) true Tryz.f7.params.toList args.toList ds p) (hT : TabW W) :
    Calls Tryz.prog 7 args W fun e W' => e = .returned (.bool true) ∧ Below W.heap.size W W' := by
  rw [Tryz.params7] at hA hval
  obtain ⟨v0, vs0, d0, ds0, p0, q0, hargs, rfl, rfl, h0, r0⟩ := trodAll_cons hA
  obtain ⟨v1, vs1, d1, ds1, p1, q1, rfl, rfl, rfl, h1, r1⟩ := trodAll_cons r0
  obtain ⟨rfl, rfl, rfl⟩ := trodAll_nil r1
  obtain rfl : args = #[v0, v1] := by cases args; simp_all
  obtain ⟨n0, c0, i0, hrow0, hel0, hm0, hq0, hvr0⟩ := slice_arg (ok := okD) (Q := okN) (ks := [.i .u32]) (d0 := 8) okb Tryz.underlying74 (by kernel_rfl) (by kernel_rfl) (by decide) (hval 0 74 v0 rfl rfl) h0 trivial
  obtain ⟨a0, hl0, rfl, w0⟩ := elems_ints hel0.elems
  subst hl0
  obtain ⟨n1, c1, i1, hrow1, hel1, hm1, hq1, hvr1⟩ := slice_arg (ok := okD) (Q := okN) (ks := [.b]) (d0 := 8) okb Tryz.underlying75 (by kernel_rfl) (by kernel_rfl) (by decide) (hval 1 75 v1 rfl rfl) h1 trivial
  obtain ⟨a1, hl1, rfl⟩ := Go.Proofs.YtcallecdjebojaaGreat.tk.elems_b hel1.elems
  subst hl1
  exact law_con (by kernel_rfl) (L := [(iCells .u32 a0), (Go.Proofs.YtcallecdjebojaaGreat.gl.gC Go.Proofs.YtcallecdjebojaaGreat.tk.enB a1)]) (I := [i0, i1]) (Nat.le_of_ble_eq_true rfl) (Go.Proofs.YtcallecdjebojaaGreat.cp.P_law2 a0 a1 hm0 w0 hm1) (lr_cons hrow0 (lr_cons hrow1 lr_nil)) rfl (VRs.cons (hvr0 _ 0 rfl) (VRs.cons (hvr1 _ 1 rfl) .nil)) hT

set_option maxRecDepth 100000 in
theorem lifted (os : Os) (started : os.Started) (H : Type) (enc : TypeId × Value → H) :
    ReturnsInHanded {} Tryz.checked os 7 .any (Rows.connPingsSpec.pre6 enc Tryz.prog Tryz.f7 Rows.connPingsRow.domain false) (Rows.connPingsSpec.post enc Tryz.prog Tryz.f7 false true false false) := by
  refine law_lifted (C := Tryz.checked) own started (by kernel_rfl) Tryz.func7
    (ChangeSpec.witness6 (enc := enc) (C := Tryz.checked) false ⟨#[], #[.slice none 0 0, .slice none 0 0], []⟩ 8 (by kernel_rfl) (by kernel_rfl) (by kernel_rfl) (by kernel_rfl))
    spec rfl Tryz.underlying4 (by kernel_rfl) (fun t ht => by
      have hall : (Tryz.f7.params.toList.all fun t => Tryz.prog.readableRec t && decide (t < Tryz.prog.types.size)) = true := by kernel_rfl
      rw [List.all_eq_true] at hall
      have := hall t ht
      rw [Bool.and_eq_true] at this
      exact ⟨this.1, of_decide_eq_true this.2⟩) ?_
  intro W base args ds p hval hA
  exact contract W base args ds p hval hA (hT0 W)

theorem over : Rows.connPingsRow.holds Tryz.pinned (OpenSpec.ofChange Rows.connPingsSpec) :=
  OpenClaim.holds_of_wide 7 Tryz.f7 rfl rfl rfl rfl rfl rfl rfl ⟨rfl, rfl, rfl, rfl, rfl⟩ rfl rfl rfl rfl rfl (by kernel_rfl) Tryz.func7 (by kernel_rfl)
    (of_decide_eq_true (by kernel_rfl)) (by unfold Func.isWrapper; first | (rw [if_pos (by decide +kernel)]; kernel_rfl) | (rw [if_neg (by decide +kernel)]; exact ⟨rfl, rfl⟩))
    (fun os started H enc _ => lifted os started H enc)

theorem proved : Rows.ConnPingsSaid :=
  over
end Go.Proofs.YtcallecdjebojaaGreat.connPings
