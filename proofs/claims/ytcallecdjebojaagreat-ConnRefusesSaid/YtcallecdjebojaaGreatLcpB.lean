/- A server that has heard a client's beginning, as a call that is known. -/
import Derived.Test.YtcallecdjebojaaGreatSz9
import Derived.Test.YtcallecdjebojaaGreatRows
import Derived.Test.YtcallecdjebojaaGreatLcrX
import Derived.Test.YtcallecdjebojaaGreatLwit
set_option maxRecDepth 20000
set_option linter.unusedSimpArgs false
set_option linter.unusedVariables false
namespace Go.Proofs.YtcallecdjebojaaGreat.cp
open Go Go.Ev Go.Sy Go.RowKit Go.Proofs.YtcallecdjebojaaGreat.ck
noncomputable abbrev EBg : Env := envTl Tryz.prog [] (fun _ _ _ => none)
def rdB (q k n : Nat) : Row := ⟨[.slice (some ⟨q, k, none⟩) n 1, .int .i64 16384, .string ⟨#[]⟩, .int .i64 0, .int .i64 0, .int .i64 0], false, .cells false⟩
def lfB : Row := ⟨[.int .u8 0, .int .u8 0, .int .u8 0, .int .u8 4, .int .u8 0, .int .u8 0, .int .u8 0, .int .u8 0, .int .u8 0], false, .cells true⟩
def unB (t : Nat) : Row := ⟨[.pointer (some ⟨t, 0, none⟩), .int .i64 4096, .int .i64 65536, .bool false], false, .cells false⟩
def pkB (t : Nat) : Row := ⟨[.pointer (some ⟨t, 0, none⟩), .bool false, .int .i64 0], false, .cells false⟩
def tbB : Row := ⟨[.slice none 0 0, .int .i64 0, .int .i64 4096], false, .cells false⟩
theorem no_calls : CallsOk Tryz.prog (fun _ _ _ => none) := by
  unfold CallsOk
  intros
  simp_all
end Go.Proofs.YtcallecdjebojaaGreat.cp
