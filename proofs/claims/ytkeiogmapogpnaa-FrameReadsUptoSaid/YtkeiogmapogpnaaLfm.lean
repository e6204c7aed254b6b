/- Bytes that come in parts: the mathematics of a reader. -/
import Derived.Test.YtkeiogmapogpnaaSz9
import Derived.Test.YtkeiogmapogpnaaRows
import Derived.Test.YtkeiogmapogpnaaLfp
set_option linter.unusedSimpArgs false
set_option linter.unusedVariables false
namespace Go.Proofs.Ytkeiogmapogpnaa.fe
open Go Go.Ev Go.Sy Go.RowKit Go.Proofs.Ytkeiogmapogpnaa.s9 Go.Proofs.Ytkeiogmapogpnaa.fd Go.Proofs.Ytkeiogmapogpnaa.gl
def lf (r : Rd) : List UInt8 := r.x.drop r.k
noncomputable def toG (a : Bf) : Gf := ⟨a.t, a.f, a.s, gCode (bCells a.p), 0, a.p.length⟩
theorem run_p (m : Int) : ∀ (n : Nat) (x : List UInt8), ∀ f ∈ (run m n x).1, f.p.length ≤ x.length := by
  intro n
  induction n with
  | zero => intro x f hf; simp [run] at hf
  | succ n ih =>
    intro x f hf
    simp only [run] at hf
    split at hf
    · simp at hf
    · split at hf
      · simp at hf
      · split at hf
        · simp at hf
        · rcases List.mem_cons.1 hf with rfl | hf
          · unfold fr1; simp only [List.length_drop, List.length_take]; omega
          · have := ih _ f hf; rw [List.length_drop] at this; omega
theorem fd_left (r : Rd) (p : List UInt8) (h : r.k ≤ r.x.length) : (fdX r p).drop (fdK r p) = lf r ++ p ∧ (lf r ++ p).length ≤ (fdX r p).length ∧ fdK r p ≤ (fdX r p).length ∧ ((fdX r p).length ≤ r.x.length ∨ (fdX r p).length ≤ (lf r ++ p).length) := by
  unfold lf
  have hl : (r.x.drop r.k ++ p).length = r.x.length - r.k + p.length := by rw [List.length_append, List.length_drop]
  cases hk : keeps r p with
  | true =>
    have h' : r.x.length ≠ 0 ∧ r.x.length - r.k + p.length = 0 := by unfold keeps at hk; exact of_decide_eq_true hk
    have hp : p = [] := List.eq_nil_of_length_eq_zero (by omega)
    have ex : fdX r p = r.x := by unfold fdX; rw [if_pos hk]
    have ek : fdK r p = r.k := by unfold fdK; rw [if_pos hk]
    rw [ex, ek, hl, hp]
    exact ⟨by simp, by simp only [List.length_nil]; omega, h, .inl (Nat.le_refl _)⟩
  | false =>
    have ex : fdX r p = r.x.drop r.k ++ p := by unfold fdX; rw [if_neg (by simp [hk])]
    have ek : fdK r p = 0 := by unfold fdK; rw [if_neg (by simp [hk])]
    rw [ex, ek]
    exact ⟨rfl, Nat.le_refl _, Nat.zero_le _, .inr (Nat.le_refl _)⟩
theorem fdR_run (m : Int) (r : Rd) (p : List UInt8) (h : r.k ≤ r.x.length) {N : Nat} (hN : (lf r ++ p).length ≤ N) : fdR m r p = run m N (lf r ++ p) := by
  obtain ⟨h1, h2, _⟩ := fd_left r p h
  unfold fdR
  rw [h1]; exact run_fuel m _ _ h2 _ hN
theorem enG_toG (l : List Bf) : gC enG l = gC enH (l.map toG) := by
  induction l with
  | nil => rfl
  | cons a l ih => rw [List.map_cons, gC_cons, gC_cons, ih]; rfl
theorem toG_ok {a : Bf} (h : a.p.length ≤ 16777216) : FOk (toG a) := by
  have hz : gCells (gCode (bCells a.p)) = bCells a.p := gCells_code (bCells_g _)
  refine ⟨a.p, ?_, rfl, h, ?_⟩
  · unfold toG; simp only; rw [hz, List.drop_zero, List.take_of_length_le (by rw [bCells_len]; exact Nat.le_refl _)]
  · unfold toG; simp only; rw [hz, bCells_len]; omega
theorem isF_mk {l : List Bf} {n : Nat} (hn : n = l.length) (h : ∀ f ∈ l, f.p.length ≤ 16777216) : IsF ⟨gC enG l, true, .cells true⟩ n :=
  ⟨l.map toG, by rw [enG_toG]; rfl, by rw [List.length_map]; exact hn, fun x hx => by obtain ⟨a, ha, rfl⟩ := List.mem_map.1 hx; exact toG_ok (h a ha)⟩
theorem zF_same (l : List Bf) : zF ⟨gC enG l, true, .cells true⟩ ⟨gC enG l, true, .cells true⟩ = true := by
  rw [enG_toG, zF_mk]; exact decide_eq_true rfl
end Go.Proofs.Ytkeiogmapogpnaa.fe
