/- The law WeighOrder of the program returns true, whatever the arguments, whatever the world; the arguments and what else was there stay. -/
import Derived.Test.YtgnpilaadggegaaRows
import Derived.ChangeMaps5
import Derived.ChangeSame
import Derived.ChangeArms
import Derived.Test.YtgnpilaadggegaaLlawWgO
namespace Go.Proofs.Ytgnpilaadggegaa.weighOrder
open Go.Ev Go.Sy Go.ChangeShapes Go.WideShapes Go.ChangeAt Go.RowKit

theorem own : ownKnob Try.prog.godebug = none := by kernel_rfl

theorem spec : LawSpec Rows.weighOrderSpec 4 := by
  refine ⟨rfl, fun H ds h => ?_⟩
  match ds, h with
  | [_, _, _, _], _ => exact ⟨rfl, rfl, rfl⟩

def okD {H : Type} (_ : DataW H) : Prop := True
def okN (_ : Nat) : Prop := True
theorem okb {H : Type} : OkB (H := H) okD okN := ⟨trivial, fun _ _ => trivial, fun _ _ _ _ => trivial, fun _ _ _ _ _ => trivial, fun _ _ _ => trivial⟩

theorem contract {H : Type} {enc : TypeId × Value → H} (W : World) (base : Nat) (args : Array Value) (ds : List (DataW H)) (p : List MemPlace)
    (hval : ∀ (j : Nat) t v, Try.f6.params[j]? = some t → args[j]? = some v → Value.okWide Try.prog W .any base t v)
    (hA : DataW.TrodAll enc Try.prog W 0 (fun _ => true) true Try.f6.params.toList args.toList ds p) :
    Calls Try.prog 6 args W fun e W' => e = .returned (.bool true) ∧ Below W.heap.size W W' := by
  rw [Try.params6] at hA hval
  obtain ⟨v0, vs0, d0, ds0, p0, q0, hargs, rfl, rfl, h0, r0⟩ := trodAll_cons hA
  obtain ⟨v1, vs1, d1, ds1, p1, q1, rfl, rfl, rfl, h1, r1⟩ := trodAll_cons r0
  obtain ⟨v2, vs2, d2, ds2, p2, q2, rfl, rfl, rfl, h2, r2⟩ := trodAll_cons r1
  obtain ⟨v3, vs3, d3, ds3, p3, q3, rfl, rfl, rfl, h3, r3⟩ := trodAll_cons r2
  obtain ⟨rfl, rfl, rfl⟩ := trodAll_nil r3
  obtain rfl : args = #[v0, v1, v2, v3] := by cases args; simp_all
  obtain ⟨a0, rfl⟩ := float_arg Try.underlying22 (hval 0 22 v0 rfl rfl)
  obtain ⟨a1, rfl⟩ := float_arg Try.underlying22 (hval 1 22 v1 rfl rfl)
  obtain ⟨a2, rfl⟩ := float_arg Try.underlying22 (hval 2 22 v2 rfl rfl)
  obtain ⟨cs3, rfl, hl3, hw3⟩ := Go.Proofs.Ytgnpilaadggegaa.fl.array_arg (k := .i64) Try.underlying37 (m := 3) (ts := [3, 3, 3]) (by kernel_rfl) (by kernel_rfl) (by kernel_rfl) (hval 3 37 v3 rfl rfl)
  obtain ⟨ea3_0, ea3_1, ea3_2, rfl⟩ : ∃ ea3_0 ea3_1 ea3_2, cs3 = [ea3_0, ea3_1, ea3_2] := by
    match cs3, hl3 with
    | [x0, x1, x2], _ => exact ⟨x0, x1, x2, rfl⟩
  obtain ⟨a3_0, rfl, wa3_0⟩ := hw3 ea3_0 (by simp)
  obtain ⟨a3_1, rfl, wa3_1⟩ := hw3 ea3_1 (by simp)
  obtain ⟨a3_2, rfl, wa3_2⟩ := hw3 ea3_2 (by simp)
  exact law_con (by kernel_rfl) (L := []) (I := []) (Nat.le_of_ble_eq_true rfl) (Go.Proofs.Ytgnpilaadggegaa.fl.ord_law a0 a1 a2 a3_0 a3_1 a3_2 (Sy.wf64 wa3_0) (Sy.wf64 wa3_1) (Sy.wf64 wa3_2)) lr_nil rfl (VRs.cons (plain_refl 12 _ rfl) (VRs.cons (plain_refl 12 _ rfl) (VRs.cons (plain_refl 12 _ rfl) (VRs.cons (VRs.agg (VRs.cons (VR.int _ _) (VRs.cons (VR.int _ _) (VRs.cons (VR.int _ _) .nil)))) .nil))))

set_option maxRecDepth 100000 in
theorem lifted (os : Os) (started : os.Started) (H : Type) (enc : TypeId × Value → H) :
    ReturnsInHanded {} Try.checked os 6 .any (Rows.weighOrderSpec.pre6 enc Try.prog Try.f6 Rows.weighOrderRow.domain false) (Rows.weighOrderSpec.post enc Try.prog Try.f6 false true false false) := by
  refine law_lifted (C := Try.checked) own started (by kernel_rfl) Try.func6
    (ChangeSpec.witness6 (enc := enc) (C := Try.checked) false ⟨#[], #[.float .f64 0, .float .f64 0, .float .f64 0, .agg #[.int .i64 0, .int .i64 0, .int .i64 0]], []⟩ 8 (by kernel_rfl) (by kernel_rfl) (by kernel_rfl) (by kernel_rfl))
    spec rfl Try.underlying4 (by kernel_rfl) (fun t ht => by
      have hall : (Try.f6.params.toList.all fun t => Try.prog.readableRec t && decide (t < Try.prog.types.size)) = true := by kernel_rfl
      rw [List.all_eq_true] at hall
      have := hall t ht
      rw [Bool.and_eq_true] at this
      exact ⟨this.1, of_decide_eq_true this.2⟩) ?_
  intro W base args ds p hval hA
  exact contract W base args ds p hval hA

theorem over : Rows.weighOrderRow.holds Try.pinned (OpenSpec.ofChange Rows.weighOrderSpec) :=
  OpenClaim.holds_of_wide 6 Try.f6 rfl rfl rfl rfl rfl rfl rfl ⟨rfl, rfl, rfl, rfl, rfl⟩ rfl rfl rfl rfl rfl (by kernel_rfl) Try.func6 (by kernel_rfl)
    (of_decide_eq_true (by kernel_rfl)) (by unfold Func.isWrapper; first | (rw [if_pos (by decide +kernel)]; kernel_rfl) | (rw [if_neg (by decide +kernel)]; exact ⟨rfl, rfl⟩))
    (fun os started H enc _ => lifted os started H enc)

theorem proved : Rows.WeighOrderSaid :=
  over
end Go.Proofs.Ytgnpilaadggegaa.weighOrder
