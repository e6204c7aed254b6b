/- The law SettingTells of the program returns true, whatever the arguments, whatever the world; the arguments and what else was there stay. -/
import Derived.Test.YtocehonfnpjcjaaRows
import Derived.Test.YtocehonfnpjcjaaLs11tells
namespace Go.Proofs.Ytocehonfnpjcjaa.settingTells
open Go.Ev Go.Sy Go.ChangeShapes Go.WideShapes Go.ChangeAt Go.RowKit

theorem own : ownKnob Try.prog.godebug = none := by kernel_rfl

theorem spec : LawSpec Rows.settingTellsSpec 2 := by
  refine ⟨rfl, fun H ds h => ?_⟩
  match ds, h with
  | [_, _], _ => exact ⟨rfl, rfl, rfl⟩

theorem agg_of {v : Value} {cs : List Value} (h : v.cells.toList = cs) (hl : 2 ≤ cs.length) : v = .agg ⟨cs⟩ := by
  subst h
  cases v <;> first | rfl | (simp [Value.cells] at hl)

theorem contract {H : Type} {enc : TypeId × Value → H} (W : World) (base : Nat) (args : Array Value) (ds : List (DataW H)) (p : List MemPlace)
    (hval : ∀ (j : Nat) t v, Try.f4.params[j]? = some t → args[j]? = some v → Value.okWide Try.prog W .any base t v)
    (hA : DataW.TrodAll enc Try.prog W 0 (fun _ => true) true Try.f4.params.toList args.toList ds p) :
    Calls Try.prog 4 args W fun e W' => e = .returned (.bool true) ∧ Below W.heap.size W W' := by
  rw [Try.params4] at hA hval
  obtain ⟨v0, vs0, d0, ds0, p0, q0, hargs, rfl, rfl, h0, r0⟩ := trodAll_cons hA
  obtain ⟨v1, vs1, d1, ds1, p1, q1, rfl, rfl, rfl, h1, r1⟩ := trodAll_cons r0
  obtain ⟨rfl, rfl, rfl⟩ := trodAll_nil r1
  obtain rfl : args = #[v0, v1] := by cases args; simp_all
  obtain ⟨fu0, hf0⟩ := h0
  have hcs0 := flat_cells 8 23 [.i .i64, .i .i64, .i .i64, .i .i64, .i .i64] v0.cells.toList _ _ (by kernel_rfl) (by kernel_rfl) hf0
  obtain ⟨a0, he0⟩ := Go.Proofs.Ytocehonfnpjcjaa.s11.st_open hcs0
  obtain rfl : v0 = Go.Proofs.Ytocehonfnpjcjaa.s11.stV a0 := agg_of he0 (Nat.le_of_ble_eq_true rfl)
  obtain ⟨n1, c1, i1, hrow1, hel1, hm1, hd1, hvr1⟩ := slice_row (ks := [.i .i64, .i .i64]) (d0 := 8) Try.underlying30 (by kernel_rfl) (by kernel_rfl) (by decide) (hval 1 30 v1 rfl rfl) h1
  obtain ⟨a1, hl1, rfl, w1⟩ := Go.Proofs.Ytocehonfnpjcjaa.s11.elems_se hel1
  subst hl1
  exact law_con (by kernel_rfl) (L := [(Go.Proofs.Ytocehonfnpjcjaa.gl.gC Go.Proofs.Ytocehonfnpjcjaa.s11.seC a1)]) (I := [i1]) (Nat.le_of_ble_eq_true rfl) (Go.Proofs.Ytocehonfnpjcjaa.s11.tells_law a0 a1 hm1 w1) (lr_cons hrow1 lr_nil) rfl (VRs.cons (plain_refl 12 _ rfl) (VRs.cons (hvr1 _ 0 rfl) .nil))

set_option maxRecDepth 100000 in
theorem lifted (os : Os) (started : os.Started) (H : Type) (enc : TypeId × Value → H) :
    ReturnsInHanded {} Try.checked os 4 .any (Rows.settingTellsSpec.pre6 enc Try.prog Try.f4 Rows.settingTellsRow.domain false) (Rows.settingTellsSpec.post enc Try.prog Try.f4 false true false false) := by
  refine law_lifted (C := Try.checked) own started (by kernel_rfl) Try.func4
    (ChangeSpec.witness6 (enc := enc) (C := Try.checked) false ⟨#[], #[.agg #[.int .i64 0, .int .i64 0, .int .i64 0, .int .i64 0, .int .i64 0], .slice none 0 0], []⟩ 8 (by kernel_rfl) (by kernel_rfl) (by kernel_rfl) (by kernel_rfl))
    spec rfl Try.underlying4 (by kernel_rfl) (fun t ht => by
      have hall : (Try.f4.params.toList.all fun t => Try.prog.readableRec t && decide (t < Try.prog.types.size)) = true := by kernel_rfl
      rw [List.all_eq_true] at hall
      have := hall t ht
      rw [Bool.and_eq_true] at this
      exact ⟨this.1, of_decide_eq_true this.2⟩) ?_
  intro W base args ds p hval hA
  exact contract W base args ds p hval hA

theorem over : Rows.settingTellsRow.holds Try.pinned (OpenSpec.ofChange Rows.settingTellsSpec) :=
  OpenClaim.holds_of_wide 4 Try.f4 rfl rfl rfl rfl rfl rfl rfl ⟨rfl, rfl, rfl, rfl, rfl⟩ rfl rfl rfl rfl rfl (by kernel_rfl) Try.func4 (by kernel_rfl)
    (of_decide_eq_true (by kernel_rfl)) (by unfold Func.isWrapper; first | (rw [if_pos (by decide +kernel)]; kernel_rfl) | (rw [if_neg (by decide +kernel)]; exact ⟨rfl, rfl⟩))
    (fun os started H enc _ => lifted os started H enc)

theorem proved : Rows.SettingTellsSaid :=
  over
end Go.Proofs.Ytocehonfnpjcjaa.settingTells
