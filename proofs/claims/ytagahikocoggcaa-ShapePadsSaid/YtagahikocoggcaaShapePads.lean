/- The law ShapePads of the program returns true, whatever the arguments, whatever the world; the arguments and what else was there stay. -/
import Derived.Test.YtagahikocoggcaaRows
import Derived.ChangeMaps5
import Derived.ChangeSame
import Derived.ChangeArms
import Derived.Test.YtagahikocoggcaaLlawShP
namespace Go.Proofs.Ytagahikocoggcaa.shapePads
open Go.Ev Go.Sy Go.ChangeShapes Go.WideShapes Go.ChangeAt Go.RowKit

theorem own : ownKnob Try.prog.godebug = none := by kernel_rfl

theorem spec : LawSpec Rows.shapePadsSpec 6 := by
  refine ⟨rfl, fun H ds h => ?_⟩
  match ds, h with
  | [_, _, _, _, _, _], _ => exact ⟨rfl, rfl, rfl⟩

def okD {H : Type} (_ : DataW H) : Prop := True
def okN (_ : Nat) : Prop := True
theorem okb {H : Type} : OkB (H := H) okD okN := ⟨trivial, fun _ _ => trivial, fun _ _ _ _ => trivial, fun _ _ _ _ _ => trivial, fun _ _ _ => trivial⟩

theorem contract {H : Type} {enc : TypeId × Value → H} (W : World) (base : Nat) (args : Array Value) (ds : List (DataW H)) (p : List MemPlace)
    (hval : ∀ (j : Nat) t v, Try.f6.params[j]? = some t → args[j]? = some v → Value.okWide Try.prog W .any base t v)
    (hA : DataW.TrodAll enc Try.prog W 0 (fun _ => true) true Try.f6.params.toList args.toList ds p) :
    Calls Try.prog 6 args W fun e W' => e = .returned (.bool true) ∧ Below W.heap.size W W' := by
  rw [Try.params6] at hA hval
  obtain ⟨v0, vs0, d0, ds0, p0, q0, hargs, rfl, rfl, h0, r0⟩ := trodAll_cons hA
  obtain ⟨v1, vs1, d1, ds1, p1, q1, rfl, rfl, rfl, h1, r1⟩ := trodAll_cons r0
  obtain ⟨v2, vs2, d2, ds2, p2, q2, rfl, rfl, rfl, h2, r2⟩ := trodAll_cons r1
  obtain ⟨v3, vs3, d3, ds3, p3, q3, rfl, rfl, rfl, h3, r3⟩ := trodAll_cons r2
  obtain ⟨v4, vs4, d4, ds4, p4, q4, rfl, rfl, rfl, h4, r4⟩ := trodAll_cons r3
  obtain ⟨v5, vs5, d5, ds5, p5, q5, rfl, rfl, rfl, h5, r5⟩ := trodAll_cons r4
  obtain ⟨rfl, rfl, rfl⟩ := trodAll_nil r5
  obtain rfl : args = #[v0, v1, v2, v3, v4, v5] := by cases args; simp_all
  obtain ⟨a0, rfl, rfl, rfl⟩ := open_bool Try.underlying4 (hval 0 4 v0 rfl rfl) h0
  obtain ⟨a1, rfl, rfl, rfl⟩ := open_bool Try.underlying4 (hval 1 4 v1 rfl rfl) h1
  obtain ⟨a2, rfl, rfl, rfl, w2⟩ := open_int Try.underlying3 (hval 2 3 v2 rfl rfl) h2
  obtain ⟨n3, c3, i3, hrow3, hel3, hm3, hq3, hvr3⟩ := slice_arg (ok := okD) (Q := okN) (ks := [.i .u8]) (d0 := 8) okb Try.underlying22 (by kernel_rfl) (by kernel_rfl) (by decide) (hval 3 22 v3 rfl rfl) h3 trivial
  obtain ⟨a3, hl3, rfl⟩ := elems_bytes hel3.elems
  subst hl3
  obtain ⟨a4, rfl, rfl, rfl, w4⟩ := open_int Try.underlying5 (hval 4 5 v4 rfl rfl) h4
  obtain ⟨u4, rfl⟩ := u8_of_wf w4
  obtain ⟨a5, rfl, rfl, rfl, w5⟩ := open_int Try.underlying5 (hval 5 5 v5 rfl rfl) h5
  obtain ⟨u5, rfl⟩ := u8_of_wf w5
  exact law_con (by kernel_rfl) (L := [(bCells a3)]) (I := [i3]) (Nat.le_of_ble_eq_true rfl) (Go.Proofs.Ytagahikocoggcaa.sh.sh_pads a0 a1 a2 a3 u4 u5 (Sy.wf64 w2) hm3) (lr_cons hrow3 lr_nil) rfl (VRs.cons (VR.bool _) (VRs.cons (VR.bool _) (VRs.cons (VR.int _ _) (VRs.cons (hvr3 _ 0 rfl) (VRs.cons (VR.int _ _) (VRs.cons (VR.int _ _) .nil))))))

set_option maxRecDepth 100000 in
theorem lifted (os : Os) (started : os.Started) (H : Type) (enc : TypeId × Value → H) :
    ReturnsInHanded {} Try.checked os 6 .any (Rows.shapePadsSpec.pre6 enc Try.prog Try.f6 Rows.shapePadsRow.domain false) (Rows.shapePadsSpec.post enc Try.prog Try.f6 false true false false) := by
  refine law_lifted (C := Try.checked) own started (by kernel_rfl) Try.func6
    (ChangeSpec.witness6 (enc := enc) (C := Try.checked) false ⟨#[], #[.bool false, .bool false, .int .i64 0, .slice none 0 0, .int .u8 0, .int .u8 0], []⟩ 8 (by kernel_rfl) (by kernel_rfl) (by kernel_rfl) (by kernel_rfl))
    spec rfl Try.underlying4 (by kernel_rfl) (fun t ht => by
      have hall : (Try.f6.params.toList.all fun t => Try.prog.readableRec t && decide (t < Try.prog.types.size)) = true := by kernel_rfl
      rw [List.all_eq_true] at hall
      have := hall t ht
      rw [Bool.and_eq_true] at this
      exact ⟨this.1, of_decide_eq_true this.2⟩) ?_
  intro W base args ds p hval hA
  exact contract W base args ds p hval hA

theorem over : Rows.shapePadsRow.holds Try.pinned (OpenSpec.ofChange Rows.shapePadsSpec) :=
  OpenClaim.holds_of_wide 6 Try.f6 rfl rfl rfl rfl rfl rfl rfl ⟨rfl, rfl, rfl, rfl, rfl⟩ rfl rfl rfl rfl rfl (by kernel_rfl) Try.func6 (by kernel_rfl)
    (of_decide_eq_true (by kernel_rfl)) (by unfold Func.isWrapper; first | (rw [if_pos (by decide +kernel)]; kernel_rfl) | (rw [if_neg (by decide +kernel)]; exact ⟨rfl, rfl⟩))
    (fun os started H enc _ => lifted os started H enc)

theorem proved : Rows.ShapePadsSaid :=
  over
end Go.Proofs.Ytagahikocoggcaa.shapePads
