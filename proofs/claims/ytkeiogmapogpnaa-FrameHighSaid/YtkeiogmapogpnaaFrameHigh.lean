/- The law FrameHigh of the program returns true, whatever the arguments, whatever the world; the arguments and what else was there stay. -/
import Derived.Test.YtkeiogmapogpnaaRows
import Derived.ChangeMaps5
import Derived.ChangeSame
import Derived.ChangeArms
import Derived.Test.YtkeiogmapogpnaaLlawFh
namespace Go.Proofs.Ytkeiogmapogpnaa.frameHigh
open Go.Ev Go.Sy Go.ChangeShapes Go.WideShapes Go.ChangeAt Go.RowKit

theorem own : ownKnob Try.prog.godebug = none := by kernel_rfl

theorem spec : LawSpec Rows.frameHighSpec 1 := by
  refine ⟨rfl, fun H ds h => ?_⟩
  match ds, h with
  | [_], _ => exact ⟨rfl, rfl, rfl⟩

def okD {H : Type} (_ : DataW H) : Prop := True
def okN (_ : Nat) : Prop := True
theorem okb {H : Type} : OkB (H := H) okD okN := ⟨trivial, fun _ _ => trivial, fun _ _ _ _ => trivial, fun _ _ _ _ _ => trivial, fun _ _ _ => trivial⟩

theorem contract {H : Type} {enc : TypeId × Value → H} (W : World) (base : Nat) (args : Array Value) (ds : List (DataW H)) (p : List MemPlace)
    (hval : ∀ (j : Nat) t v, Try.f10.params[j]? = some t → args[j]? = some v → Value.okWide Try.prog W .any base t v)
    (hA : DataW.TrodAll enc Try.prog W 0 (fun _ => true) true Try.f10.params.toList args.toList ds p) :
    Calls Try.prog 10 args W fun e W' => e = .returned (.bool true) ∧ Below W.heap.size W W' := by
  rw [Try.params10] at hA hval
  obtain ⟨v0, vs0, d0, ds0, p0, q0, hargs, rfl, rfl, h0, r0⟩ := trodAll_cons hA
  obtain ⟨rfl, rfl, rfl⟩ := trodAll_nil r0
  obtain rfl : args = #[v0] := by cases args; simp_all
  obtain ⟨cs0, J0, hc0, hJ0, hvr0⟩ := structG_arg (ok := okD) (Q := okN) (k2 := [.p (.i .i64), .p (.i .i64), .p (.i .i64), .sl 22 5 [.i .u8]]) (d0 := 8) okb Try.underlying24 (by kernel_rfl) (by kernel_rfl) (hval 0 24 v0 rfl rfl) h0 trivial
  obtain ⟨e0_0, e0_1, e0_2, e0_3, rfl⟩ : ∃ e0_0 e0_1 e0_2 e0_3, cs0 = [e0_0, e0_1, e0_2, e0_3] := by
    match cs0, hc0 with
    | [x0, x1, x2, x3], _ => exact ⟨x0, x1, x2, x3, rfl⟩
  obtain ⟨f0_0, f0_1, f0_2, f0_3, _⟩ := hc0
  obtain ⟨a0_0, rfl, w0_0⟩ := cq_i f0_0
  obtain ⟨a0_1, rfl, w0_1⟩ := cq_i f0_1
  obtain ⟨a0_2, rfl, w0_2⟩ := cq_i f0_2
  obtain ⟨n0_3, c0_3, rfl, hel0_3, hm0_3, hq0_3⟩ := f0_3
  obtain ⟨a0_3, hl0_3, rfl⟩ := elems_bytes hel0_3.elems
  subst hl0_3
  exact law_conG (by kernel_rfl) (L := []) (I := []) (J := J0) (Nat.le_of_ble_eq_true rfl) (Go.Proofs.Ytkeiogmapogpnaa.fe.Fh_law a0_0 a0_1 a0_2 a0_3 (Sy.wf64 w0_0) (Sy.wf64 w0_1) (Sy.wf64 w0_2) hm0_3) lrg_nil rfl (fun x hx => by (try simp only [List.mem_append] at hx); exact hJ0 x hx) (VRs.cons (hvr0 _ (hasG_muL _ (Nat.le_of_ble_eq_true rfl))) .nil)

set_option maxRecDepth 100000 in
theorem lifted (os : Os) (started : os.Started) (H : Type) (enc : TypeId × Value → H) :
    ReturnsInHanded {} Try.checked os 10 .any (Rows.frameHighSpec.pre6 enc Try.prog Try.f10 Rows.frameHighRow.domain false) (Rows.frameHighSpec.post enc Try.prog Try.f10 false true false false) := by
  refine law_lifted (C := Try.checked) own started (by kernel_rfl) Try.func10
    (ChangeSpec.witness6 (enc := enc) (C := Try.checked) false ⟨#[], #[.agg #[.int .i64 0, .int .i64 0, .int .i64 0, .slice none 0 0]], []⟩ 8 (by kernel_rfl) (by kernel_rfl) (by kernel_rfl) (by kernel_rfl))
    spec rfl Try.underlying4 (by kernel_rfl) (fun t ht => by
      have hall : (Try.f10.params.toList.all fun t => Try.prog.readableRec t && decide (t < Try.prog.types.size)) = true := by kernel_rfl
      rw [List.all_eq_true] at hall
      have := hall t ht
      rw [Bool.and_eq_true] at this
      exact ⟨this.1, of_decide_eq_true this.2⟩) ?_
  intro W base args ds p hval hA
  exact contract W base args ds p hval hA

theorem over : Rows.frameHighRow.holds Try.pinned (OpenSpec.ofChange Rows.frameHighSpec) :=
  OpenClaim.holds_of_wide 10 Try.f10 rfl rfl rfl rfl rfl rfl rfl ⟨rfl, rfl, rfl, rfl, rfl⟩ rfl rfl rfl rfl rfl (by kernel_rfl) Try.func10 (by kernel_rfl)
    (of_decide_eq_true (by kernel_rfl)) (by unfold Func.isWrapper; first | (rw [if_pos (by decide +kernel)]; kernel_rfl) | (rw [if_neg (by decide +kernel)]; exact ⟨rfl, rfl⟩))
    (fun os started H enc _ => lifted os started H enc)

theorem proved : Rows.FrameHighSaid :=
  over
end Go.Proofs.Ytkeiogmapogpnaa.frameHigh
