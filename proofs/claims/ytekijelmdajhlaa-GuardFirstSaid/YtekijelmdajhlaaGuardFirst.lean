/- The law GuardFirst of the program returns true, whatever the arguments, whatever the world; the arguments and what else was there stay. -/
import Derived.Test.YtekijelmdajhlaaRows
import Derived.ChangeMaps5
import Derived.ChangeSame
import Derived.ChangeArms
import Derived.Test.YtekijelmdajhlaaLlawGf
namespace Go.Proofs.Ytekijelmdajhlaa.guardFirst
open Go.Ev Go.Sy Go.ChangeShapes Go.WideShapes Go.ChangeAt Go.RowKit

theorem own : ownKnob Try.prog.godebug = none := by kernel_rfl

theorem spec : LawSpec Rows.guardFirstSpec 1 := by
  refine ⟨rfl, fun H ds h => ?_⟩
  match ds, h with
  | [_], _ => exact ⟨rfl, rfl, rfl⟩

def okD {H : Type} (_ : DataW H) : Prop := True
def okN (_ : Nat) : Prop := True
theorem okb {H : Type} : OkB (H := H) okD okN := ⟨trivial, fun _ _ => trivial, fun _ _ _ _ => trivial, fun _ _ _ _ _ => trivial, fun _ _ _ => trivial⟩

theorem contract {H : Type} {enc : TypeId × Value → H} (W : World) (base : Nat) (args : Array Value) (ds : List (DataW H)) (p : List MemPlace)
    (hval : ∀ (j : Nat) t v, Try.f5.params[j]? = some t → args[j]? = some v → Value.okWide Try.prog W .any base t v)
    (hA : DataW.TrodAll enc Try.prog W 0 (fun _ => true) true Try.f5.params.toList args.toList ds p) :
    Calls Try.prog 5 args W fun e W' => e = .returned (.bool true) ∧ Below W.heap.size W W' := by
  rw [Try.params5] at hA hval
  obtain ⟨v0, vs0, d0, ds0, p0, q0, hargs, rfl, rfl, h0, r0⟩ := trodAll_cons hA
  obtain ⟨rfl, rfl, rfl⟩ := trodAll_nil r0
  obtain rfl : args = #[v0] := by cases args; simp_all
  obtain ⟨L0, i0, J0, hrow0, hL0, hJ0, hm0, hq0, hvr0⟩ := sliceG_arg (ok := okD) (Q := okN) (ks := [.sl 32 55 [.i .i64, .i .i64, .i .i64, .i .i64, .b]]) (d0 := 8) okb Try.underlying44 (by kernel_rfl) (by kernel_rfl) (by decide) (hval 0 44 v0 rfl rfl) h0 trivial
  obtain ⟨a0, hl0, he0, w0⟩ := Go.Proofs.Ytekijelmdajhlaa.gp.gr_of (Q := okN) hL0
  rw [he0] at hrow0
  rw [← hl0] at hm0 hq0 hvr0
  exact law_conG (by kernel_rfl) (L := [(Go.Proofs.Ytekijelmdajhlaa.gl.gC Go.Proofs.Ytekijelmdajhlaa.gp.enR a0)]) (I := [i0]) (J := J0) (Nat.le_of_ble_eq_true rfl) (Go.Proofs.Ytekijelmdajhlaa.gp.gf_law a0 hm0 w0) (lrg_cons (hrow0.mono (fun x hx => by simp [hx])) lrg_nil) rfl (fun x hx => by (try simp only [List.mem_append] at hx); exact hJ0 x hx) (VRs.cons (hvr0 _ 0 rfl) .nil)

set_option maxRecDepth 100000 in
theorem lifted (os : Os) (started : os.Started) (H : Type) (enc : TypeId × Value → H) :
    ReturnsInHanded {} Try.checked os 5 .any (Rows.guardFirstSpec.pre6 enc Try.prog Try.f5 Rows.guardFirstRow.domain false) (Rows.guardFirstSpec.post enc Try.prog Try.f5 false true false false) := by
  refine law_lifted (C := Try.checked) own started (by kernel_rfl) Try.func5
    (ChangeSpec.witness6 (enc := enc) (C := Try.checked) false ⟨#[], #[.slice none 0 0], []⟩ 8 (by kernel_rfl) (by kernel_rfl) (by kernel_rfl) (by kernel_rfl))
    spec rfl Try.underlying4 (by kernel_rfl) (fun t ht => by
      have hall : (Try.f5.params.toList.all fun t => Try.prog.readableRec t && decide (t < Try.prog.types.size)) = true := by kernel_rfl
      rw [List.all_eq_true] at hall
      have := hall t ht
      rw [Bool.and_eq_true] at this
      exact ⟨this.1, of_decide_eq_true this.2⟩) ?_
  intro W base args ds p hval hA
  exact contract W base args ds p hval hA

theorem over : Rows.guardFirstRow.holds Try.pinned (OpenSpec.ofChange Rows.guardFirstSpec) :=
  OpenClaim.holds_of_wide 5 Try.f5 rfl rfl rfl rfl rfl rfl rfl ⟨rfl, rfl, rfl, rfl, rfl⟩ rfl rfl rfl rfl rfl (by kernel_rfl) Try.func5 (by kernel_rfl)
    (of_decide_eq_true (by kernel_rfl)) (by unfold Func.isWrapper; first | (rw [if_pos (by decide +kernel)]; kernel_rfl) | (rw [if_neg (by decide +kernel)]; exact ⟨rfl, rfl⟩))
    (fun os started H enc _ => lifted os started H enc)

theorem proved : Rows.GuardFirstSaid :=
  over
end Go.Proofs.Ytekijelmdajhlaa.guardFirst
