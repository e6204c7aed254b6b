/- The law FieldsSums of the program returns true, whatever the arguments of the given bulk, whatever the world; the arguments and what else was there stay. -/
import Derived.Test.YtacbignkbpfdhaaRows
import Derived.JoinedCond
import Derived.ChangeSame
import Derived.ChangeArms
import Derived.Test.YtacbignkbpfdhaaLs5sums
namespace Go.Proofs.Ytacbignkbpfdhaa.fieldsSumsUpto
open Go.Ev Go.Sy Go.ChangeShapes Go.WideShapes Go.ChangeAt Go.RowKit

theorem own : ownKnob Try.prog.godebug = none := by kernel_rfl

theorem spec : LawSpec Rows.fieldsSumsSpec 2 := by
  refine ⟨rfl, fun H ds h => ?_⟩
  match ds, h with
  | [_, _], _ => exact ⟨rfl, rfl, rfl⟩

theorem one_le {H : Type} (d : DataW H) : 1 ≤ Rows.uptoBulk d := by
  cases d with
  | lit l => cases l <;> simp [Rows.uptoBulk]
  | _ => simp [Rows.uptoBulk]
theorem length_le {H : Type} (l : List (DataW H)) : l.length ≤ Rows.uptoBulkAll l := by
  induction l with
  | nil => simp [Rows.uptoBulkAll]
  | cons x r ih => have := one_le x; simp only [Rows.uptoBulkAll, List.length_cons]; omega
theorem le_of_bulk {H : Type} {n b : Nat} {d : DataW H} (h : n = 0 ∨ ∃ elems rest, d = .slice elems rest ∧ elems.length = n) (hb : Rows.uptoBulk d ≤ b) : n ≤ b := by
  rcases h with rfl | ⟨elems, rest, rfl, rfl⟩
  · omega
  · have := length_le elems
    simp only [Rows.uptoBulk] at hb
    omega
theorem str_of_bulk {H : Type} {s : ByteArray} {b : Nat} (hb : Rows.uptoBulk (DataW.lit (H := H) (.string s.data.toList)) ≤ b) : s.size ≤ b := by
  simp only [Rows.uptoBulk] at hb
  have e : s.data.toList.length = s.size := by rw [Array.length_toList]; rfl
  omega

open Go.Proofs.Ytacbignkbpfdhaa.s5 in
theorem field_bulk {H : Type} {enc : TypeId × Value → H} {W : World} (fuel : Nat) (cs : List Value) (y : DataW H × List MemPlace) (h : DataW.trod enc Try.prog W 0 (fun _ => true) true fuel 23 cs = some y) :
    ∃ f : s5.Fd, cs = fdC f ∧ one f ≤ 32 * Rows.uptoBulk y.1 := by
  obtain ⟨y0, y1, n, rfl, hl, h0, h1⟩ := trod_struct2 Try.underlying23 h
  obtain ⟨s0, e0, rfl, _⟩ := DataW.trod_string Try.underlying9 h0
  obtain ⟨s1, e1, rfl, _⟩ := DataW.trod_string Try.underlying9 h1
  have hc : Try.prog.cellsOf 23 = 2 := by kernel_rfl
  have hc9 : Try.prog.cellsOf 9 = 1 := by kernel_rfl
  rw [hc] at hl
  match cs, hl with
  | [u, v], _ =>
    simp [hc9] at e0 e1
    subst e0
    subst e1
    exact ⟨⟨s0, s1⟩, rfl, by simp only [one, Rows.uptoBulk, Rows.uptoBulkAll]; omega⟩
open Go.Proofs.Ytacbignkbpfdhaa.s5 in
theorem fields_bulk {H : Type} : ∀ (L : List (List Value)) (elems : List (DataW H)), elems.length = L.length → (∀ j, j < L.length → ∃ c x, L[j]? = some c ∧ elems[j]? = some x ∧ ∃ f : s5.Fd, c = fdC f ∧ one f ≤ 32 * Rows.uptoBulk x) →
    ∃ l : List s5.Fd, l.length = L.length ∧ L.flatten = fdCells l ∧ tot l ≤ 32 * Rows.uptoBulkAll elems
  | [], _, _, _ => ⟨[], rfl, rfl, Nat.zero_le _⟩
  | c :: L, [], h, _ => by simp at h
  | c :: L, x :: elems, h, hx => by
    obtain ⟨l, h1, h2, h3⟩ := fields_bulk L elems (by simpa using h) (fun j hj => by
      obtain ⟨c', x', g1, g2, g3⟩ := hx (j + 1) (by simp; omega)
      exact ⟨c', x', by simpa using g1, by simpa using g2, g3⟩)
    obtain ⟨c', x', g1, g2, f, g3, g4⟩ := hx 0 (by simp)
    simp at g1 g2
    subst g1
    subst g2
    refine ⟨f :: l, by simp [h1], ?_, ?_⟩
    · rw [List.flatten_cons, h2, g3]; rfl
    · simp only [tot, Rows.uptoBulkAll]; omega
open Go.Proofs.Ytacbignkbpfdhaa.s5 in
theorem fields_open {H : Type} {n : Nat} {L : List (List Value)} {d : DataW H} (hn : L.length = n)
    (hd : n = 0 ∨ ∃ elems rest, d = .slice elems rest ∧ elems.length = n ∧ ∀ j, j < n → ∃ c x, L[j]? = some c ∧ elems[j]? = some x ∧ ∃ f : s5.Fd, c = fdC f ∧ one f ≤ 32 * Rows.uptoBulk x) :
    ∃ l : List s5.Fd, l.length = n ∧ L.flatten = fdCells l ∧ tot l ≤ 32 * Rows.uptoBulk d ∧ n ≤ Rows.uptoBulk d := by
  subst hn
  rcases hd with h | ⟨elems, rest, rfl, h1, h2⟩
  · have : L = [] := List.eq_nil_of_length_eq_zero h
    subst this
    exact ⟨[], rfl, rfl, Nat.zero_le _, Nat.zero_le _⟩
  · obtain ⟨l, g1, g2, g3⟩ := fields_bulk L elems h1 h2
    have := length_le elems
    exact ⟨l, g1, g2, by simp only [Rows.uptoBulk]; omega, by simp only [Rows.uptoBulk]; omega⟩

theorem contract {H : Type} {enc : TypeId × Value → H} (W : World) (base : Nat) (args : Array Value) (ds : List (DataW H)) (p : List MemPlace)
    (hval : ∀ (j : Nat) t v, Try.f6.params[j]? = some t → args[j]? = some v → Value.okWide Try.prog W .any base t v)
    (hA : DataW.TrodAll enc Try.prog W 0 (fun _ => true) true Try.f6.params.toList args.toList ds p) (hb : Rows.uptoBulkAll ds ≤ 1048576) :
    Calls Try.prog 6 args W fun e W' => e = .returned (.bool true) ∧ Below W.heap.size W W' := by
  rw [Try.params6] at hA hval
  obtain ⟨v0, vs0, d0, ds0, p0, q0, hargs, rfl, rfl, h0, r0⟩ := trodAll_cons hA
  obtain ⟨v1, vs1, d1, ds1, p1, q1, rfl, rfl, rfl, h1, r1⟩ := trodAll_cons r0
  obtain ⟨rfl, rfl, rfl⟩ := trodAll_nil r1
  obtain rfl : args = #[v0, v1] := by cases args; simp_all
  obtain ⟨n0, L0, i0, hrow0, hn0, hm0, hd0, hvr0⟩ := Go.Proofs.Ytacbignkbpfdhaa.s5.slice_row2 (ks := [.s, .s]) (d0 := 8) (fun c x => ∃ f : Go.Proofs.Ytacbignkbpfdhaa.s5.Fd, c = Go.Proofs.Ytacbignkbpfdhaa.s5.fdC f ∧ Go.Proofs.Ytacbignkbpfdhaa.s5.one f ≤ 32 * Rows.uptoBulk x) field_bulk Try.underlying30 (by kernel_rfl) (by kernel_rfl) (by decide) (hval 0 30 v0 rfl rfl) h0
  obtain ⟨a0, hl0, hf0, t0, b0⟩ := fields_open hn0 hd0
  rw [hf0] at hrow0
  subst hl0
  obtain ⟨n1, L1, i1, hrow1, hn1, hm1, hd1, hvr1⟩ := Go.Proofs.Ytacbignkbpfdhaa.s5.slice_row2 (ks := [.s, .s]) (d0 := 8) (fun c x => ∃ f : Go.Proofs.Ytacbignkbpfdhaa.s5.Fd, c = Go.Proofs.Ytacbignkbpfdhaa.s5.fdC f ∧ Go.Proofs.Ytacbignkbpfdhaa.s5.one f ≤ 32 * Rows.uptoBulk x) field_bulk Try.underlying30 (by kernel_rfl) (by kernel_rfl) (by decide) (hval 1 30 v1 rfl rfl) h1
  obtain ⟨a1, hl1, hf1, t1, b1⟩ := fields_open hn1 hd1
  rw [hf1] at hrow1
  subst hl1
  simp only [Rows.uptoBulkAll] at hb
  exact law_con (by kernel_rfl) (L := [(Go.Proofs.Ytacbignkbpfdhaa.s5.fdCells a0), (Go.Proofs.Ytacbignkbpfdhaa.s5.fdCells a1)]) (I := [i0, i1]) (Nat.le_of_ble_eq_true rfl) (Go.Proofs.Ytacbignkbpfdhaa.s5.sums_con a0 a1 (by omega) (by omega) (by omega) (by omega)) (lr_cons hrow0 (lr_cons hrow1 lr_nil)) rfl (VRs.cons (hvr0 _ 0 rfl) (VRs.cons (hvr1 _ 1 rfl) .nil))

set_option maxRecDepth 100000 in
theorem lifted (os : Os) (started : os.Started) (H : Type) (enc : TypeId × Value → H) (F : Stop.Interp) :
    ReturnsInHanded {} Try.checked os 6 .any ((Rows.OpenSpec.upto Rows.fieldsSumsSpec).pre6 enc Try.prog Try.f6 Rows.fieldsSumsUptoRow.domain false) (((Rows.OpenSpec.upto Rows.fieldsSumsSpec).at F).post enc Try.prog Try.f6 false true false false) := by
  refine returnsInHanded_of_cond (C := Try.checked) (s := Rows.OpenSpec.upto Rows.fieldsSumsSpec) (k := Rows.uptoSmall) rfl own started (by kernel_rfl) Try.func6
    (OpenSpec.witness (enc := enc) (C := Try.checked) (s := Rows.OpenSpec.upto Rows.fieldsSumsSpec) (k := Rows.uptoSmall) rfl false ⟨#[], #[.slice none 0 0, .slice none 0 0], []⟩ 8 (by kernel_rfl) (by kernel_rfl) (by kernel_rfl)
      (x := ([.nil, .nil], [], [])) (by kernel_rfl) rfl (by kernel_rfl)) ?_
  intro W base args ds gs before hval hW _ hk _
  have hW' := hW
  obtain ⟨p, q, hA, hV, rfl, _, _⟩ := hW
  obtain ⟨rfl, rfl⟩ := trodVars_none hV
  have hb : Rows.uptoBulkAll ds ≤ 1048576 := by
    have h : Rows.uptoBulkAll (ds ++ []) ≤ 1048576 := of_decide_eq_true hk
    rwa [List.append_nil] at h
  refine (contract W base args ds p hval hA hb).mono fun e W' ⟨he, hb⟩ => ?_
  exact ⟨_, he, law_post spec rfl Try.underlying4 (by kernel_rfl) (fun t ht => by
      have hall : (Try.f6.params.toList.all fun t => Try.prog.readableRec t && decide (t < Try.prog.types.size)) = true := by kernel_rfl
      rw [List.all_eq_true] at hall
      have := hall t ht
      rw [Bool.and_eq_true] at this
      exact ⟨this.1, of_decide_eq_true this.2⟩) hW' hb⟩

theorem proved : Rows.FieldsSumsUptoSaid :=
  OpenClaim.holds_of_cond 6 Try.f6 rfl rfl rfl rfl rfl rfl rfl ⟨rfl, rfl, rfl, rfl, rfl⟩ rfl rfl rfl rfl rfl (by kernel_rfl) Try.func6 (by kernel_rfl)
    (of_decide_eq_true (by kernel_rfl)) (by unfold Func.isWrapper; first | (rw [if_pos (by decide +kernel)]; kernel_rfl) | (rw [if_neg (by decide +kernel)]; exact ⟨rfl, rfl⟩))
    (fun os started H enc _ F => lifted os started H enc F)
end Go.Proofs.Ytacbignkbpfdhaa.fieldsSumsUpto
