/- The law: s-maxage goes ahead of max-age, this ahead of expires, and it ahead of a share. -/
import Derived.Test.YtideeogedleabaaSz9
import Derived.Test.YtideeogedleabaaRows
import Derived.Test.YtideeogedleabaaLfrB
import Derived.Test.YtideeogedleabaaLlgtK
import Derived.Test.YtideeogedleabaaLwit
import Derived.Test.YtideeogedleabaaLwgF
import Derived.Test.YtideeogedleabaaLsay19
set_option maxRecDepth 20000
set_option linter.unusedSimpArgs false
set_option linter.unusedVariables false
namespace Go.Proofs.Ytideeogedleabaa.tk
open Go Go.Ev Go.Sy Go.RowKit Go.Proofs.Ytideeogedleabaa.gl
theorem ba_ex (s : ByteArray) : ∃ v : ByteArray, v = s := ⟨s, rfl⟩
noncomputable def shZ (n : Int) : ByteArray := Classical.choose (ba_ex (shS n))
noncomputable def dgZ (n : Int) : ByteArray := Classical.choose (ba_ex (bs (dgL n.toNat)))
noncomputable def eRuns : EntM := entC 3 fun a r => match a, r with
  | [], [] => some (True, .bool true, [])
  | _, _ => none
noncomputable def eShw : EntM := entC 20 fun a r => match a, r with
  | [.int .i64 n], [] => some (True, .string (shZ n), [])
  | _, _ => none
noncomputable def eDg : EntM := entC 21 fun a r => match a, r with
  | [.int .i64 n], [] => some (0 ≤ n ∧ n ≤ 1000000000000, .string (dgZ n), [])
  | _, _ => none
noncomputable def tFs : List EntM := [eRuns, eShw, eDg, eLi]
theorem z_shZ (n : Int) : shZ n = shS n := Classical.choose_spec (ba_ex _)
theorem z_dgZ (n : Nat) : dgZ (n : Nat) = bs (dgL n) := by
  have := Classical.choose_spec (ba_ex (bs (dgL (n : Int).toNat)))
  rw [Int.toNat_natCast] at this; exact this
theorem eRuns_ok : EntOk Try.prog eRuns := entC_ok (by
  intro a rows p v news h hp
  split at h <;> simp only [Option.some.injEq, Prod.mk.injEq, reduceCtorEq] at h
  obtain ⟨rfl, rfl, rfl⟩ := h
  exact con_run mixed (n := 1000000) (by kernel_rfl) (by kernel_rfl))
theorem eShw_ok : EntOk Try.prog eShw := entC_ok (by
  intro a rows p v news h hp
  split at h <;> simp only [Option.some.injEq, Prod.mk.injEq, reduceCtorEq] at h
  obtain ⟨rfl, rfl, rfl⟩ := h
  rw [z_shZ]
  exact Sh_con2 _)
theorem eDg_ok : EntOk Try.prog eDg := entC_ok (by
  intro a rows p v news h hp
  split at h <;> simp only [Option.some.injEq, Prod.mk.injEq, reduceCtorEq] at h
  obtain ⟨rfl, rfl, rfl⟩ := h
  rename_i n
  obtain ⟨h1, h2⟩ := hp
  have := Dg_con n.toNat (by omega)
  have e := z_dgZ n.toNat
  rw [show ((n.toNat : Nat) : Int) = n by omega] at this e
  rw [e]
  exact this)
theorem eLi_ok : EntOk Try.prog eLi := entC_ok (by
  intro a rows p v news h hp
  split at h <;> simp only [Option.some.injEq, Prod.mk.injEq, reduceCtorEq] at h
  obtain ⟨rfl, rfl, rfl⟩ := h
  obtain ⟨⟨d, rfl, rfl⟩, ⟨l, rfl, rfl⟩, h1, h2, h3⟩ := hp
  simp only [z_lifeR, BgR, dF0, List.append_nil] at h3 ⊢
  exact li_con ⟨_, _, _, _, _, _, _, _, _, _⟩ d l _ h1 h2 h3)
theorem tFs_ok : ∀ x ∈ tFs, EntOk Try.prog x := all_cons eRuns_ok (all_cons eShw_ok (all_cons eDg_ok (all_cons eLi_ok (all_nil))))
def fA2 (T U : List UInt8) : List Fl := [⟨sDate, T⟩, ⟨sLast, U⟩]
theorem nm_ne : (sDate = sLast) = False ∧ (sDate = sExp) = False ∧ (sDate = sCC) = False ∧ (sLast = sDate) = False ∧ (sLast = sExp) = False ∧ (sLast = sCC) = False ∧ (sExp = sDate) = False ∧ (sExp = sLast) = False ∧ (sExp = sCC) = False ∧ (sCC = sDate) = False ∧ (sCC = sLast) = False ∧ (sCC = sExp) = False := by decide
theorem pairs_all {l m : List Fl} {nm : List UInt8} (h : allL l nm = allL m nm) : pairsL l nm = pairsL m nm := by unfold pairsL; rw [h]
theorem ctl_all {l m : List Fl} (h : allL l sCC = allL m sCC) : ctlL l = ctlL m := by unfold ctlL; rw [pairs_all h]
theorem ctl_a2 (T U : List UInt8) : ctlL (fA2 T U) = c0 := by
  have : ctlL (fA2 T U) = ctlL [] := ctl_all (by simp [fA2, allL, allS, nm_ne])
  rw [this]; rfl
theorem sh_nat (n : Nat) (h : n ≤ 2147483647) : shZ (n : Int) = bs (shL n) := by
  rw [z_shZ]; unfold shS
  have : shN (n : Int) = n := by unfold shN; omega
  rw [this]
theorem big_f (l : List Fl) (h : ∀ f ∈ l, f.n.length ≤ 100 ∧ f.v.length ≤ 100) (hl : l.length ≤ 10) : BgL l := fun nm => by
  have h1 := allL_le l nm
  have h2 : ∀ m : List Fl, (∀ f ∈ m, f.n.length ≤ 100 ∧ f.v.length ≤ 100) → lgN m ≤ 201 * m.length := by
    intro m
    induction m with
    | nil => intro _; simp [lgN]
    | cons f m ih =>
      intro hm
      have := ih (fun g hg => hm g (List.mem_cons_of_mem _ hg))
      have h3 := hm f List.mem_cons_self
      rw [lgN, List.length_cons]; unfold fOn; omega
  have h3 := h2 l h
  omega
theorem bgR_mk (l : List Fl) (b : Bool) (o : Ob) (h : BgL l) : BgR ⟨gC enF l, b, o⟩ := by unfold BgR; simp only; rw [decF_gC]; exact h
end Go.Proofs.Ytideeogedleabaa.tk
