/- A reader of frames, fed: contract. -/
import Derived.Test.YtkeiogmapogpnaaSz9
import Derived.Test.YtkeiogmapogpnaaRows
import Derived.Test.YtkeiogmapogpnaaLfe
set_option linter.unusedSimpArgs false
set_option linter.unusedVariables false
namespace Go.Proofs.Ytkeiogmapogpnaa.fe
open Go Go.Ev Go.Sy Go.RowKit Go.Proofs.Ytkeiogmapogpnaa.s9 Go.Proofs.Ytkeiogmapogpnaa.fd Go.Proofs.Ytkeiogmapogpnaa.gl
structure Rd where
  x : List UInt8
  k : Nat
  bad : Bool
def keeps (r : Rd) (b : List UInt8) : Bool := decide (r.x.length ≠ 0 ∧ r.x.length - r.k + b.length = 0)
def fdX (r : Rd) (b : List UInt8) : List UInt8 := if keeps r b then r.x else r.x.drop r.k ++ b
def fdK (r : Rd) (b : List UInt8) : Nat := if keeps r b then r.k else 0
def fdR (m : Int) (r : Rd) (b : List UInt8) : List Bf × Nat × Bool := run m (fdX r b).length ((fdX r b).drop (fdK r b))
def fdL (m : Int) (r : Rd) (b : List UInt8) : List Bf := if r.bad then [] else (fdR m r b).1
def fdB (m : Int) (r : Rd) (b : List UInt8) : Bool := r.bad || (fdR m r b).2.2
def fdS (m : Int) (r : Rd) (b : List UInt8) : Rd := if r.bad then r else if (fdR m r b).2.2 then ⟨[], 0, true⟩ else ⟨fdX r b, fdK r b + (fdR m r b).2.1, false⟩
def scB (b : Bool) : Int := if b then 2 else 0
def coB (b : Bool) : Int := if b then 6 else 0
def RdOk (r : Rd) : Prop := r.k ≤ r.x.length ∧ (r.bad = true → r.x = [])
theorem run_le (m : Int) : ∀ (n : Nat) (x : List UInt8), (run m n x).2.1 ≤ x.length ∧ (run m n x).1.length ≤ (run m n x).2.1 := by
  intro n
  induction n with
  | zero => intro x; simp [run]
  | succ n ih =>
    intro x
    simp only [run]
    split
    · simp
    · split
      · simp
      · split
        · simp
        · have := ih (x.drop (9 + lenF x))
          rw [List.length_drop] at this
          simp only [List.length_cons]
          omega
theorem fd_key1 (m : Int) (r : Rd) (b : List UInt8) (hb : r.bad = false) (y : Se) (hy : y.snd ≤ (fdX r b).length ∧ fdK r b ≤ y.snd ∧ run m (fdX r b).length (List.drop (fdK r b) (fdX r b)) = (y.fst, y.snd - fdK r b, false)) :
    (fdL m r b).length = y.fst.length ∧ scB (fdB m r b) = 0 ∧ coB (fdB m r b) = 0 ∧ (fdS m r b).k = y.snd ∧ (fdS m r b).x.length - (fdS m r b).k = (fdX r b).length - y.snd ∧ m = m ∧ scB (fdB m r b) = 0 ∧ coB (fdB m r b) = 0 ∧ bCells (fdS m r b).x = bCells (fdX r b) ∧ gC enG (fdL m r b) = gC enG y.fst ∧ Plain (gC enG (fdL m r b)) := by
  obtain ⟨h1, h2, h3⟩ := hy
  have hR : fdR m r b = (y.1, y.2 - fdK r b, false) := h3
  have e1 : fdL m r b = y.1 := by unfold fdL; rw [if_neg (by simp [hb]), hR]
  have e2 : fdB m r b = false := by unfold fdB; rw [hb, hR]; rfl
  have e3 : fdS m r b = ⟨fdX r b, y.2, false⟩ := by unfold fdS; rw [if_neg (by simp [hb]), hR]; simp; omega
  rw [e1, e2, e3]
  exact ⟨rfl, rfl, rfl, rfl, rfl, rfl, rfl, rfl, rfl, rfl, enG_pl _⟩
theorem fd_key2 (m : Int) (r : Rd) (b : List UInt8) (hb : r.bad = false) (y : Se) (hy : ∃ k, run m (fdX r b).length (List.drop (fdK r b) (fdX r b)) = (y.fst, k, true)) :
    (fdL m r b).length = y.fst.length ∧ scB (fdB m r b) = 2 ∧ coB (fdB m r b) = 6 ∧ (fdS m r b).x.length - (fdS m r b).k = 0 ∧ m = m ∧ scB (fdB m r b) = 2 ∧ coB (fdB m r b) = 6 ∧ bCells (fdS m r b).x = [] ∧ gC enG (fdL m r b) = gC enG y.fst ∧ Plain (gC enG (fdL m r b)) := by
  obtain ⟨k, h3⟩ := hy
  have hR : fdR m r b = (y.1, k, true) := h3
  have e1 : fdL m r b = y.1 := by unfold fdL; rw [if_neg (by simp [hb]), hR]
  have e2 : fdB m r b = true := by unfold fdB; rw [hb, hR]; rfl
  have e3 : fdS m r b = ⟨[], 0, true⟩ := by unfold fdS; rw [if_neg (by simp [hb]), hR]; rfl
  rw [e1, e2, e3]
  exact ⟨rfl, rfl, rfl, rfl, rfl, rfl, rfl, rfl, rfl, enG_pl _⟩
end Go.Proofs.Ytkeiogmapogpnaa.fe
