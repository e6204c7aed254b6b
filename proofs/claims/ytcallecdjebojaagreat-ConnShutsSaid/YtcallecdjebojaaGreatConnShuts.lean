/- The law ConnShuts of the program returns true, whatever the arguments, whatever the world; the arguments and what else was there stay. -/
import Derived.Test.YtcallecdjebojaaGreatRows
import Derived.ChangeMaps5
import Derived.ChangeSame
import Derived.ChangeArms
import Derived.Test.YtcallecdjebojaaGreatLlawCs
namespace Go.Proofs.YtcallecdjebojaaGreat.connShuts
open Go.Ev Go.Sy Go.ChangeShapes Go.WideShapes Go.ChangeAt Go.RowKit

theorem own : ownKnob Tryz.prog.godebug = none := by kernel_rfl

theorem spec : LawSpec Rows.connShutsSpec 2 := by
  refine ⟨rfl, fun H ds h => ?_⟩
  match ds, h with
  | [_, _], _ => exact ⟨rfl, rfl, rfl⟩

def okD {H : Type} (_ : DataW H) : Prop := True
def okN (_ : Nat) : Prop := True
theorem okb {H : Type} : OkB (H := H) okD okN := ⟨trivial, fun _ _ => trivial, fun _ _ _ _ => trivial, fun _ _ _ _ _ => trivial, fun _ _ _ => trivial⟩

set_option maxRecDepth 100000 in
theorem contract {H : Type} {enc : TypeId × Value → H} (W : World) (base : Nat) (args : Array Value) (ds : List (DataW H)) (p : List MemPlace)
    (hval : ∀ (j : Nat) t v, Tryz.f11.params[j]? = some t → args[j]? = some v → Value.okWide Tryz.prog W .any base t v)
    (hA : DataW.TrodAll enc Tryz.prog W 0 (fun _ => true) true Tryz.f11.params.toList args.toList ds p) :
    Calls Tryz.prog 11 args W fun e W' => e = .returned (.bool true) ∧ Below W.heap.size W W' := by
  rw [Tryz.params11] at hA hval
  obtain ⟨v0, vs0, d0, ds0, p0, q0, hargs, rfl, rfl, h0, r0⟩ := trodAll_cons hA
  obtain ⟨v1, vs1, d1, ds1, p1, q1, rfl, rfl, rfl, h1, r1⟩ := trodAll_cons r0
  obtain ⟨rfl, rfl, rfl⟩ := trodAll_nil r1
  obtain rfl : args = #[v0, v1] := by cases args; simp_all
  obtain ⟨a0, rfl, rfl, rfl, w0⟩ := open_int Tryz.underlying5 (hval 0 5 v0 rfl rfl) h0
  obtain ⟨u0, rfl⟩ := u8_of_wf w0
  obtain ⟨L1, i1, J1, hrow1, hL1, hJ1, hm1, hq1, hvr1⟩ := sliceG_arg (ok := okD) (Q := okN) (ks := [.p (.i .i64), .p (.i .i64), .p (.i .i64), .p (.i .i64), .p (.i .i64), .p (.i .i64), .sl 30 5 [.i .u8], .sl 30 5 [.i .u8], .sl 41 39 [.s, .s, .i .i64], .p (.s), .p (.b)]) (d0 := 8) okb Tryz.underlying59 (by kernel_rfl) (by kernel_rfl) (by decide) (hval 1 59 v1 rfl rfl) h1 trivial
  obtain ⟨a1, hl1, he1, w1⟩ := Go.Proofs.YtcallecdjebojaaGreat.cs.ga_of (Q := okN) hL1
  rw [he1] at hrow1
  rw [← hl1] at hm1 hq1 hvr1
  exact law_conG (by kernel_rfl) (L := [(Go.Proofs.YtcallecdjebojaaGreat.gl.gC Go.Proofs.YtcallecdjebojaaGreat.cs.enA a1)]) (I := [i1]) (J := J1) (Nat.le_of_ble_eq_true rfl) (Go.Proofs.YtcallecdjebojaaGreat.cs.S_law u0 a1 hm1 w1) (lrg_cons (hrow1.mono (fun x hx => by simp [hx])) lrg_nil) rfl (fun x hx => by (try simp only [List.mem_append] at hx); exact hJ1 x hx) (VRs.cons (VR.int _ _) (VRs.cons (hvr1 _ 0 rfl) .nil))

set_option maxRecDepth 100000 in
theorem lifted (os : Os) (started : os.Started) (H : Type) (enc : TypeId × Value → H) :
    ReturnsInHanded {} Tryz.checked os 11 .any (Rows.connShutsSpec.pre6 enc Tryz.prog Tryz.f11 Rows.connShutsRow.domain false) (Rows.connShutsSpec.post enc Tryz.prog Tryz.f11 false true false false) := by
  refine law_lifted (C := Tryz.checked) own started (by kernel_rfl) Tryz.func11
    (ChangeSpec.witness6 (enc := enc) (C := Tryz.checked) false ⟨#[], #[.int .u8 0, .slice none 0 0], []⟩ 8 (by kernel_rfl) (by kernel_rfl) (by kernel_rfl) (by kernel_rfl))
    spec rfl Tryz.underlying4 (by kernel_rfl) (fun t ht => by
      have hall : (Tryz.f11.params.toList.all fun t => Tryz.prog.readableRec t && decide (t < Tryz.prog.types.size)) = true := by kernel_rfl
      rw [List.all_eq_true] at hall
      have := hall t ht
      rw [Bool.and_eq_true] at this
      exact ⟨this.1, of_decide_eq_true this.2⟩) ?_
  intro W base args ds p hval hA
  exact contract W base args ds p hval hA

theorem over : Rows.connShutsRow.holds Tryz.pinned (OpenSpec.ofChange Rows.connShutsSpec) :=
  OpenClaim.holds_of_wide 11 Tryz.f11 rfl rfl rfl rfl rfl rfl rfl ⟨rfl, rfl, rfl, rfl, rfl⟩ rfl rfl rfl rfl rfl (by kernel_rfl) Tryz.func11 (by kernel_rfl)
    (of_decide_eq_true (by kernel_rfl)) (by unfold Func.isWrapper; first | (rw [if_pos (by decide +kernel)]; kernel_rfl) | (rw [if_neg (by decide +kernel)]; exact ⟨rfl, rfl⟩))
    (fun os started H enc _ => lifted os started H enc)

theorem proved : Rows.ConnShutsSaid :=
  over
end Go.Proofs.YtcallecdjebojaaGreat.connShuts
