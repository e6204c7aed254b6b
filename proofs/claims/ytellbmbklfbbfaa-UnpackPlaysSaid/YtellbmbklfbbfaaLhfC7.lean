/- Codes, sizes, texts encoded. -/
import Derived.Test.YtellbmbklfbbfaaSz9
import Derived.Test.YtellbmbklfbbfaaRows
import Derived.Test.YtellbmbklfbbfaaLhfM
set_option maxRecDepth 20000
set_option linter.unusedSimpArgs false
set_option linter.unusedVariables false
namespace Go.Proofs.Ytellbmbklfbbfaa.hf
open Go Go.Ev Go.Sy Go.RowKit Go.Proofs.Ytellbmbklfbbfaa.gl Go.Proofs.Ytellbmbklfbbfaa.tk
theorem v_ex (l : List Value) : ∃ g, g = l := ⟨l, rfl⟩
noncomputable def bkC : List Value := Classical.choose (v_ex (nC (tbl 864 (f3 257))))
theorem int_ex0 (n : Int) : ∃ v : Int, v = n := ⟨n, rfl⟩
noncomputable def lenI (n : Int) : Int := Classical.choose (int_ex0 (hLenI n))
noncomputable def eOpen : EntM := entC 57 fun a r => match a, r with
  | [], [] => some (True, .pointer (some ⟨0, 0, none⟩), [⟨bkC, false, .cells true⟩])
  | _, _ => none
noncomputable def eLenZ : EntM := entC 59 fun a r => match a, r with
  | [.int .i64 n], [] => some (True, .int .i64 (lenI n), [])
  | _, _ => none
noncomputable def tC : List EntM := [eOpen, eLenZ]
noncomputable abbrev EtC : Env := envT Try.prog tC
structure GEn where
  l : List UInt8
  out : List UInt8
  i : Nat
  b : List Bool
noncomputable def rlE (o : List UInt8) : List (Nat × Row) := [(0, ⟨bkC, false, .cells true⟩), (1, bOwn o)]
theorem z_bkC : bkC = nC (tbl 864 (f3 257)) := Classical.choose_spec (v_ex _)
theorem z_lenI (n : Int) : lenI n = hLenI n := Classical.choose_spec (int_ex0 _)
theorem eOpen_ok : EntOk Try.prog eOpen := entC_ok (by
  intro a rows p v news h hp
  split at h <;> simp only [Option.some.injEq, Prod.mk.injEq, reduceCtorEq] at h
  obtain ⟨rfl, rfl, rfl⟩ := h
  rw [z_bkC]
  exact open_con)
theorem eLenZ_ok : EntOk Try.prog eLenZ := entC_ok (by
  intro a rows p v news h hp
  split at h <;> simp only [Option.some.injEq, Prod.mk.injEq, reduceCtorEq] at h
  obtain ⟨rfl, rfl, rfl⟩ := h
  rw [z_lenI]
  exact len_con _)
theorem tC_ok : ∀ x ∈ tC, EntOk Try.prog x := all_cons eOpen_ok (all_cons eLenZ_ok (all_nil))
theorem br_nif {P : Prop} {d : Decidable P} {p q : Prop} (h1 : ¬ P) (h2 : ¬ P → q) : br (@decide P d) p q := by
  rw [show @decide P d = false from decide_eq_false h1]; exact h2 h1
theorem or_cat {a b : Nat} (k : Nat) (h : b < 2 ^ k) (ha : a * 2 ^ k + b < 9223372036854775808) : ior .i64 ((a * 2 ^ k : Nat) : Int) (b : Int) = ((a * 2 ^ k + b : Nat) : Int) := by
  rw [ior_nat (by omega) (by omega), Nat.mul_comm, Nat.two_pow_add_eq_or_of_lt h]
theorem p2le (k : Nat) (h : k ≤ 40) : 2 ^ k ≤ 1099511627776 := Nat.pow_le_pow_right (n := 2) (by omega) h
theorem sh1 (k : Nat) (h : k ≤ 40) : IntKind.i64.wrap (ishl .i64 1 (k : Int) - 1) = ((2 ^ k - 1 : Nat) : Int) := by
  have hp : 0 < 2 ^ k := Nat.two_pow_pos _
  have := p2le k h
  have e := ishl_nat (a := 1) (k := k) (by omega) (by omega)
  rw [show ((1 : Nat) : Int) = 1 from rfl] at e
  rw [e, Nat.one_mul, wr64_id (by unfold I64; omega)]
  omega
end Go.Proofs.Ytellbmbklfbbfaa.hf
