/- The law UnpackPlain of the program returns true, whatever the arguments, whatever the world; the arguments and what else was there stay. -/
import Derived.Test.YtellbmbklfbbfaaRows
import Derived.ChangeMaps5
import Derived.ChangeSame
import Derived.ChangeArms
import Derived.Test.YtellbmbklfbbfaaLlawUn
namespace Go.Proofs.Ytellbmbklfbbfaa.unpackPlain
open Go.Ev Go.Sy Go.ChangeShapes Go.WideShapes Go.ChangeAt Go.RowKit

theorem own : ownKnob Try.prog.godebug = none := by kernel_rfl

theorem spec : LawSpec Rows.unpackPlainSpec 2 := by
  refine ⟨rfl, fun H ds h => ?_⟩
  match ds, h with
  | [_, _], _ => exact ⟨rfl, rfl, rfl⟩

def okD {H : Type} (_ : DataW H) : Prop := True
def okN (_ : Nat) : Prop := True
theorem okb {H : Type} : OkB (H := H) okD okN := ⟨trivial, fun _ _ => trivial, fun _ _ _ _ => trivial, fun _ _ _ _ _ => trivial, fun _ _ _ => trivial⟩

theorem q_fields {n : Nat} {cells : List Value} (h : ElemsQ okN [.s, .s] n cells) : ∃ l : List Go.Proofs.Ytellbmbklfbbfaa.tk.Fl, l.length = n ∧ cells = Go.Proofs.Ytellbmbklfbbfaa.gl.gC Go.Proofs.Ytellbmbklfbbfaa.tk.enF l ∧ ∀ f ∈ l, f.n.length ≤ maxLen ∧ f.v.length ≤ maxLen := by
  obtain ⟨l, h1, h2, h3⟩ := h.data (α := Go.Proofs.Ytellbmbklfbbfaa.tk.Fl) Go.Proofs.Ytellbmbklfbbfaa.tk.enF (fun f => f.n.length ≤ maxLen ∧ f.v.length ≤ maxLen) (fun c hc => by
    match c, hc with
    | [x, y], hc =>
      obtain ⟨c1, c2, _⟩ := hc
      obtain ⟨s, rfl, w1, b1⟩ := cq_s c1
      obtain ⟨t, rfl, w2, b2⟩ := cq_s c2
      exact ⟨⟨Go.Proofs.Ytellbmbklfbbfaa.tk.L s, Go.Proofs.Ytellbmbklfbbfaa.tk.L t⟩, rfl, w1, w2⟩)
  exact ⟨l, h1, h2, h3⟩

set_option maxRecDepth 100000 in
theorem contract {H : Type} {enc : TypeId × Value → H} (W : World) (base : Nat) (args : Array Value) (ds : List (DataW H)) (p : List MemPlace)
    (hval : ∀ (j : Nat) t v, Try.f6.params[j]? = some t → args[j]? = some v → Value.okWide Try.prog W .any base t v)
    (hA : DataW.TrodAll enc Try.prog W 0 (fun _ => true) true Try.f6.params.toList args.toList ds p) :
    Calls Try.prog 6 args W fun e W' => e = .returned (.bool true) ∧ Below W.heap.size W W' := by
  rw [Try.params6] at hA hval
  obtain ⟨v0, vs0, d0, ds0, p0, q0, hargs, rfl, rfl, h0, r0⟩ := trodAll_cons hA
  obtain ⟨v1, vs1, d1, ds1, p1, q1, rfl, rfl, rfl, h1, r1⟩ := trodAll_cons r0
  obtain ⟨rfl, rfl, rfl⟩ := trodAll_nil r1
  obtain rfl : args = #[v0, v1] := by cases args; simp_all
  obtain ⟨n0, c0, i0, hrow0, hel0, hm0, hq0, hvr0⟩ := slice_arg (ok := okD) (Q := okN) (ks := [.s, .s]) (d0 := 8) okb Try.underlying49 (by kernel_rfl) (by kernel_rfl) (by decide) (hval 0 49 v0 rfl rfl) h0 trivial
  obtain ⟨a0, hl0, rfl, w0⟩ := q_fields hel0
  subst hl0
  obtain ⟨a1, rfl, rfl, rfl⟩ := open_bool Try.underlying4 (hval 1 4 v1 rfl rfl) h1
  exact law_con (by kernel_rfl) (L := [(Go.Proofs.Ytellbmbklfbbfaa.gl.gC Go.Proofs.Ytellbmbklfbbfaa.tk.enF a0)]) (I := [i0]) (Nat.le_of_ble_eq_true rfl) (Go.Proofs.Ytellbmbklfbbfaa.up.N_law a0 a1 hm0 w0) (lr_cons hrow0 lr_nil) rfl (VRs.cons (hvr0 _ 0 rfl) (VRs.cons (VR.bool _) .nil))

set_option maxRecDepth 100000 in
theorem lifted (os : Os) (started : os.Started) (H : Type) (enc : TypeId × Value → H) :
    ReturnsInHanded {} Try.checked os 6 .any (Rows.unpackPlainSpec.pre6 enc Try.prog Try.f6 Rows.unpackPlainRow.domain false) (Rows.unpackPlainSpec.post enc Try.prog Try.f6 false true false false) := by
  refine law_lifted (C := Try.checked) own started (by kernel_rfl) Try.func6
    (ChangeSpec.witness6 (enc := enc) (C := Try.checked) false ⟨#[], #[.slice none 0 0, .bool false], []⟩ 8 (by kernel_rfl) (by kernel_rfl) (by kernel_rfl) (by kernel_rfl))
    spec rfl Try.underlying4 (by kernel_rfl) (fun t ht => by
      have hall : (Try.f6.params.toList.all fun t => Try.prog.readableRec t && decide (t < Try.prog.types.size)) = true := by kernel_rfl
      rw [List.all_eq_true] at hall
      have := hall t ht
      rw [Bool.and_eq_true] at this
      exact ⟨this.1, of_decide_eq_true this.2⟩) ?_
  intro W base args ds p hval hA
  exact contract W base args ds p hval hA

theorem over : Rows.unpackPlainRow.holds Try.pinned (OpenSpec.ofChange Rows.unpackPlainSpec) :=
  OpenClaim.holds_of_wide 6 Try.f6 rfl rfl rfl rfl rfl rfl rfl ⟨rfl, rfl, rfl, rfl, rfl⟩ rfl rfl rfl rfl rfl (by kernel_rfl) Try.func6 (by kernel_rfl)
    (of_decide_eq_true (by kernel_rfl)) (by unfold Func.isWrapper; first | (rw [if_pos (by decide +kernel)]; kernel_rfl) | (rw [if_neg (by decide +kernel)]; exact ⟨rfl, rfl⟩))
    (fun os started H enc _ => lifted os started H enc)

theorem proved : Rows.UnpackPlainSaid :=
  over
end Go.Proofs.Ytellbmbklfbbfaa.unpackPlain
