/- A reader of frames that is fed one whole DATA frame of stream 1: as a known call. -/
import Derived.Test.YtcallecdjebojaaGreatSz9
import Derived.Test.YtcallecdjebojaaGreatRows
import Derived.Test.YtcallecdjebojaaGreatLcpO
import Derived.Test.YtcallecdjebojaaGreatLfqc
import Derived.Test.YtcallecdjebojaaGreatLwit
set_option maxRecDepth 20000
set_option linter.unusedSimpArgs false
set_option linter.unusedVariables false
namespace Go.Proofs.YtcallecdjebojaaGreat.cg
open Go Go.Ev Go.Sy Go.RowKit Go.Proofs.YtcallecdjebojaaGreat.gl Go.Proofs.YtcallecdjebojaaGreat.tk Go.Proofs.YtcallecdjebojaaGreat.cp Go.Proofs.YtcallecdjebojaaGreat.s9 Go.Proofs.YtcallecdjebojaaGreat.fd Go.Proofs.YtcallecdjebojaaGreat.fe
noncomputable def yZ : Row → Nat := sealV fun r => gCode (bCells ((dB r).drop 9))
noncomputable def yP : Row → List UInt8 := sealV fun r => (dB r)
def IsO (r : Row) (k : Nat) : Prop := ∃ x : List UInt8, r = bOwn x ∧ x.length = k ∧ k ≤ 1000000
end Go.Proofs.YtcallecdjebojaaGreat.cg
