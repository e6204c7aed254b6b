/- The law PackBack of the program returns true, whatever the arguments of the given bulk, whatever the world; the arguments and what else was there stay. -/
import Derived.Test.YtlkinjlbaeigdaaRows
import Derived.ChangeMaps5
import Derived.ChangeSame
import Derived.ChangeArms
import Derived.JoinedCond
import Derived.Test.YtlkinjlbaeigdaaLlawPbk
namespace Go.Proofs.Ytlkinjlbaeigdaa.packBackUpto
open Go.Ev Go.Sy Go.ChangeShapes Go.WideShapes Go.ChangeAt Go.RowKit

theorem own : ownKnob Try.prog.godebug = none := by kernel_rfl

theorem spec : LawSpec Rows.packBackSpec 1 := by
  refine ⟨rfl, fun H ds h => ?_⟩
  match ds, h with
  | [_], _ => exact ⟨rfl, rfl, rfl⟩

theorem one_le {H : Type} (d : DataW H) : 1 ≤ Rows.uptoBulk d := by
  cases d with
  | lit l => cases l <;> simp [Rows.uptoBulk]
  | _ => simp [Rows.uptoBulk]
theorem length_le {H : Type} (l : List (DataW H)) : l.length ≤ Rows.uptoBulkAll l := by
  induction l with
  | nil => simp [Rows.uptoBulkAll]
  | cons x r ih => have := one_le x; simp only [Rows.uptoBulkAll, List.length_cons]; omega
theorem mem_le {H : Type} {x : DataW H} : ∀ {l : List (DataW H)}, x ∈ l → Rows.uptoBulk x ≤ Rows.uptoBulkAll l
  | [], h => by simp at h
  | y :: l, h => by
    simp only [Rows.uptoBulkAll]
    rcases List.mem_cons.1 h with rfl | h
    · omega
    · have := mem_le h; omega
theorem str_of_bulk {H : Type} {s : ByteArray} {b : Nat} (hb : Rows.uptoBulk (DataW.lit (H := H) (.string s.data.toList)) ≤ b) : s.size ≤ b := by
  simp only [Rows.uptoBulk] at hb
  have e : s.data.toList.length = s.size := by rw [Array.length_toList]; rfl
  omega
def okD {H : Type} (d : DataW H) : Prop := Rows.uptoBulk d ≤ 1048576
def okN (n : Nat) : Prop := n ≤ 1048576
theorem okb {H : Type} : OkB (H := H) okD okN := by
  refine ⟨Nat.zero_le _, fun b h => ?_, fun parts x h hx => ?_, fun el sp x h hx => ?_, fun el sp h => ?_⟩
  · show b.length ≤ 1048576
    have h : Rows.uptoBulk (DataW.lit (H := H) (.string b)) ≤ 1048576 := h
    simp only [Rows.uptoBulk] at h; omega
  · show Rows.uptoBulk x ≤ 1048576
    have h : Rows.uptoBulk (DataW.agg parts) ≤ 1048576 := h
    have := mem_le hx; simp only [Rows.uptoBulk] at h; omega
  · show Rows.uptoBulk x ≤ 1048576
    have h : Rows.uptoBulk (DataW.slice el sp) ≤ 1048576 := h
    have := mem_le hx; simp only [Rows.uptoBulk] at h; omega
  · show el.length ≤ 1048576
    have h : Rows.uptoBulk (DataW.slice el sp) ≤ 1048576 := h
    have := length_le el; simp only [Rows.uptoBulk] at h; omega

set_option maxRecDepth 100000 in
theorem contract {H : Type} {enc : TypeId × Value → H} (W : World) (base : Nat) (args : Array Value) (ds : List (DataW H)) (p : List MemPlace)
    (hval : ∀ (j : Nat) t v, Try.f5.params[j]? = some t → args[j]? = some v → Value.okWide Try.prog W .any base t v)
    (hA : DataW.TrodAll enc Try.prog W 0 (fun _ => true) true Try.f5.params.toList args.toList ds p) (hb : Rows.uptoBulkAll ds ≤ 1048576) :
    Calls Try.prog 5 args W fun e W' => e = .returned (.bool true) ∧ Below W.heap.size W W' := by
  rw [Try.params5] at hA hval
  obtain ⟨v0, vs0, d0, ds0, p0, q0, hargs, rfl, rfl, h0, r0⟩ := trodAll_cons hA
  obtain ⟨rfl, rfl, rfl⟩ := trodAll_nil r0
  obtain rfl : args = #[v0] := by cases args; simp_all
  simp only [Rows.uptoBulkAll] at hb
  obtain ⟨L0, i0, J0, hrow0, hL0, hJ0, hm0, hq0, hvr0⟩ := sliceG_arg (ok := okD) (Q := okN) (ks := [.p (.i .i64), .p (.i .i64), .sl 33 31 [.s, .s, .i .i64]]) (d0 := 8) okb Try.underlying39 (by kernel_rfl) (by kernel_rfl) (by decide) (hval 0 39 v0 rfl rfl) h0 (show Rows.uptoBulk d0 ≤ 1048576 by omega)
  obtain ⟨a0, hl0, he0, w0⟩ := Go.Proofs.Ytlkinjlbaeigdaa.pb.gk_of (Q := okN) hL0
  rw [he0] at hrow0
  rw [← hl0] at hm0 hq0 hvr0
  exact law_conG (by kernel_rfl) (L := [(Go.Proofs.Ytlkinjlbaeigdaa.gl.gC Go.Proofs.Ytlkinjlbaeigdaa.pb.enK a0)]) (I := [i0]) (J := J0) (Nat.le_of_ble_eq_true rfl) (Go.Proofs.Ytlkinjlbaeigdaa.pb.Bk_law a0 hq0 w0) (lrg_cons (hrow0.mono (fun x hx => by simp [hx])) lrg_nil) rfl (fun x hx => by (try simp only [List.mem_append] at hx); exact hJ0 x hx) (VRs.cons (hvr0 _ 0 rfl) .nil)

set_option maxRecDepth 100000 in
theorem lifted (os : Os) (started : os.Started) (H : Type) (enc : TypeId × Value → H) (F : Stop.Interp) :
    ReturnsInHanded {} Try.checked os 5 .any ((Rows.OpenSpec.upto Rows.packBackSpec).pre6 enc Try.prog Try.f5 Rows.packBackUptoRow.domain false) (((Rows.OpenSpec.upto Rows.packBackSpec).at F).post enc Try.prog Try.f5 false true false false) := by
  refine returnsInHanded_of_cond (C := Try.checked) (s := Rows.OpenSpec.upto Rows.packBackSpec) (k := Rows.uptoSmall) rfl own started (by kernel_rfl) Try.func5
    (OpenSpec.witness (enc := enc) (C := Try.checked) (s := Rows.OpenSpec.upto Rows.packBackSpec) (k := Rows.uptoSmall) rfl false ⟨#[], #[.slice none 0 0], []⟩ 8 (by kernel_rfl) (by kernel_rfl) (by kernel_rfl)
      (x := ([.nil], [], [])) (by kernel_rfl) rfl (by kernel_rfl)) ?_
  intro W base args ds gs before hval hW _ hk _
  have hW' := hW
  obtain ⟨p, q, hA, hV, rfl, _, _⟩ := hW
  obtain ⟨rfl, rfl⟩ := trodVars_none hV
  have hb : Rows.uptoBulkAll ds ≤ 1048576 := by
    have h : Rows.uptoBulkAll (ds ++ []) ≤ 1048576 := of_decide_eq_true hk
    rwa [List.append_nil] at h
  refine (contract W base args ds p hval hA hb).mono fun e W' ⟨he, hb⟩ => ?_
  exact ⟨_, he, law_post spec rfl Try.underlying4 (by kernel_rfl) (fun t ht => by
      have hall : (Try.f5.params.toList.all fun t => Try.prog.readableRec t && decide (t < Try.prog.types.size)) = true := by kernel_rfl
      rw [List.all_eq_true] at hall
      have := hall t ht
      rw [Bool.and_eq_true] at this
      exact ⟨this.1, of_decide_eq_true this.2⟩) hW' hb⟩

theorem proved : Rows.PackBackUptoSaid :=
  OpenClaim.holds_of_cond 5 Try.f5 rfl rfl rfl rfl rfl rfl rfl ⟨rfl, rfl, rfl, rfl, rfl⟩ rfl rfl rfl rfl rfl (by kernel_rfl) Try.func5 (by kernel_rfl)
    (of_decide_eq_true (by kernel_rfl)) (by unfold Func.isWrapper; first | (rw [if_pos (by decide +kernel)]; kernel_rfl) | (rw [if_neg (by decide +kernel)]; exact ⟨rfl, rfl⟩))
    (fun os started H enc _ F => lifted os started H enc F)
end Go.Proofs.Ytlkinjlbaeigdaa.packBackUpto
