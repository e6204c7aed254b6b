/- UnpackBounded: whatever comes, the table's size is at most top, rows at most list, behind an error nothing is read. -/
import Derived.Test.YtellbmbklfbbfaaSz9
import Derived.Test.YtellbmbklfbbfaaRows
import Derived.Test.YtellbmbklfbbfaaLupH
import Derived.Test.YtellbmbklfbbfaaLwit
import Derived.Test.YtellbmbklfbbfaaLlawHu7
set_option maxRecDepth 20000
set_option linter.unusedSimpArgs false
set_option linter.unusedVariables false
namespace Go.Proofs.Ytellbmbklfbbfaa.up
open Go Go.Ev Go.Sy Go.RowKit Go.Proofs.Ytellbmbklfbbfaa.gl Go.Proofs.Ytellbmbklfbbfaa.tk Go.Proofs.Ytellbmbklfbbfaa.hf Go.Proofs.Ytellbmbklfbbfaa.s3 Go.Proofs.Ytellbmbklfbbfaa.tb
noncomputable def enB (p : List UInt8) : List Value := [.slice (some ⟨gCode (bCells p), 0, some 0⟩) p.length 1]
noncomputable def wsZ : List Wr → Nat → Nat := sealV fun l i => wsum (l.take i)
structure GU where
  l : List (List UInt8)
  m : Int
  n : Int
structure SU where
  i : Nat
  bad : Bool
  t : Tb
structure GI where
  g : GU
  s : SU
  u : Bool
  W : List Wr
  e : Int
  z : Int
  k : Int
theorem enB_k (a : List UInt8) : (enB a).length = 1 := rfl
theorem enB_pl (l : List (List UInt8)) : Plain (gC enB l) := gC_plain (fun a v hv => by
  unfold enB at hv
  rw [List.mem_singleton] at hv; subst hv; rfl) l
theorem cBf {l : List (List UInt8)} {i : Nat} (h : i < l.length) : (gC enB l)[i]? = some (.slice (some ⟨gCode (bCells l[i]), 0, some 0⟩) l[i].length 1) := by
  have := (gC_get0 enB_k l i h (by omega)).trans (rfl : (enB l[i])[0]? = some (.slice (some ⟨gCode (bCells l[i]), 0, some 0⟩) l[i].length 1))
  rwa [Nat.mul_one] at this
theorem cZ_of {l : List Value} {i z o n e : Nat} (h : l[i]? = some (.slice (some ⟨z, o, some 0⟩) n e)) : cellZ l i = z ∧ cellO l i = o ∧ cellN l i = n := by unfold cellZ cellO cellN; rw [h]; exact ⟨rfl, rfl, rfl⟩
theorem bCells_g (l : List UInt8) : gAll (bCells l) = true := by
  unfold gAll bCells
  rw [List.all_eq_true]
  intro v hv
  obtain ⟨b, _, rfl⟩ := List.mem_map.1 hv
  rfl
theorem wK (w : Wr) : (enW w).length = 3 := rfl
theorem wGet (l : List Wr) (i : Nat) (h : i < l.length) : (gC enW l)[i * 3]? = some (.string (bs l[i].f.n)) ∧ (gC enW l)[i * 3 + 1]? = some (.string (bs l[i].f.v)) ∧ (gC enW l)[i * 3 + 2]? = some (.int .i64 l[i].h) ∧ cellS (gC enW l) (i * 3) = bs l[i].f.n ∧ cellS (gC enW l) (i * 3 + 1) = bs l[i].f.v ∧ cellI (gC enW l) (i * 3 + 2) = l[i].h := by
  have h0 := gC_get wK l i 0 h (by omega)
  have h1 := gC_get wK l i 1 h (by omega)
  have h2 := gC_get wK l i 2 h (by omega)
  refine ⟨h0, h1, h2, ?_, ?_, ?_⟩
  · unfold cellS; rw [show (gC enW l)[i * 3]? = _ from h0]; rfl
  · unfold cellS; rw [h1]; rfl
  · unfold cellI; rw [h2]; rfl
structure InvU (g : GU) (s : SU) : Prop where
  i : s.i ≤ g.l.length
  t : TI ⟨g.m, g.n, []⟩ s.t
theorem gu_of {Q : Nat → Prop} {M : List (List Value)} (hL : ∀ c ∈ M, GCells Q [.sl 34 5 [.i .u8]] c) :
    ∃ a : List (List UInt8), a.length = M.length ∧ M.flatten = gC enB a ∧ ∀ x ∈ a, x.length ≤ maxLen := by
  induction M with
  | nil => exact ⟨[], rfl, rfl, fun x hx => by simp at hx⟩
  | cons c M ih =>
    obtain ⟨a, h1, h2, h3⟩ := ih (fun d hd => hL d (List.mem_cons_of_mem _ hd))
    have hc := hL c (List.mem_cons_self ..)
    match c, hc with
    | [v], hc =>
      obtain ⟨f3, _⟩ := hc
      obtain ⟨n, cells, rfl, hel, hm, hq⟩ := f3
      obtain ⟨p, hl, rfl⟩ := elems_bytes hel.elems
      subst hl
      refine ⟨p :: a, by rw [List.length_cons, List.length_cons, h1], by rw [List.flatten_cons, h2, gC_cons]; rfl, ?_⟩
      intro x hx
      rcases List.mem_cons.1 hx with rfl | hx
      · exact hm
      · exact h3 x hx
end Go.Proofs.Ytellbmbklfbbfaa.up
