/- Bits of bytes. -/
import Derived.Test.YtlkinjlbaeigdaaSz9
import Derived.Test.YtlkinjlbaeigdaaRows
import Derived.Test.YtlkinjlbaeigdaaLhfC8
set_option maxRecDepth 20000
set_option linter.unusedSimpArgs false
set_option linter.unusedVariables false
namespace Go.Proofs.Ytlkinjlbaeigdaa.hf
open Go Go.Ev Go.Sy Go.RowKit Go.Proofs.Ytlkinjlbaeigdaa.gl Go.Proofs.Ytlkinjlbaeigdaa.tk
def bitB (l : List UInt8) : List Bool := l.flatMap fun c => bl 8 c.toNat
theorem by_bl (x : List Bool) (h : x.length = 8) : bl 8 (byN x).toNat = x := by
  have hv := val_lt x
  rw [h] at hv
  unfold byN
  rw [u8_toNat_ofNat (by omega)]
  have := bl_val x
  rw [h] at this
  exact this
theorem bit_byts : ∀ (n : Nat) (b : List Bool), b.length ≤ n → bitB (byts b) ++ rest b = b := by
  intro n
  induction n using Nat.strongRecOn with
  | _ n ih =>
    intro b h
    by_cases h8 : 8 ≤ b.length
    · have := ih (n - 8) (by omega) (b.drop 8) (by rw [List.length_drop]; omega)
      have e : ∀ (c : UInt8) (l : List UInt8), bitB (c :: l) = bl 8 c.toNat ++ bitB l := fun c l => by unfold bitB; rw [List.flatMap_cons]
      rw [byts_ge b h8, rest_ge b h8, e, List.append_assoc, this, by_bl _ (by rw [List.length_take]; omega), List.take_append_drop]
    · rw [byts_lt b (by omega), rest_lt b (by omega)]; rfl
theorem padd_len (b : List Bool) : (padd b).length % 8 = 0 := by unfold padd; rw [List.length_append, List.length_replicate]; omega
end Go.Proofs.Ytlkinjlbaeigdaa.hf
