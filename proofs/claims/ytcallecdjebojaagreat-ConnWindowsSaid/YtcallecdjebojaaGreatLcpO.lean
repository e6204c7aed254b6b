/- What waits is taken out: contract. -/
import Derived.Test.YtcallecdjebojaaGreatSz9
import Derived.Test.YtcallecdjebojaaGreatRows
import Derived.Test.YtcallecdjebojaaGreatLcpB
import Derived.Test.YtcallecdjebojaaGreatLbkS
set_option maxRecDepth 20000
set_option linter.unusedSimpArgs false
set_option linter.unusedVariables false
namespace Go.Proofs.YtcallecdjebojaaGreat.cp
open Go Go.Ev Go.Sy Go.RowKit Go.Proofs.YtcallecdjebojaaGreat.gl Go.Proofs.YtcallecdjebojaaGreat.tk
theorem cp_ex {α : Type} (f : α) : ∃ g, g = f := ⟨f, rfl⟩
noncomputable def sealV {α : Type} (f : α) : α := Classical.choose (cp_ex f)
theorem sealV_eq {α : Type} (f : α) : sealV f = f := Classical.choose_spec (cp_ex f)
theorem dB_own (x : List UInt8) : dB (bOwn x) = x := dB_mk _ _ _
end Go.Proofs.YtcallecdjebojaaGreat.cp
