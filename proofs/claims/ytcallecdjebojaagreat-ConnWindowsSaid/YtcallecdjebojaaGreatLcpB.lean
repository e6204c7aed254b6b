/- A server that has heard a client's beginning, as a call that is known. -/
import Derived.Test.YtcallecdjebojaaGreatSz9
import Derived.Test.YtcallecdjebojaaGreatRows
import Derived.Test.YtcallecdjebojaaGreatLcrX
import Derived.Test.YtcallecdjebojaaGreatLwit
set_option maxRecDepth 20000
set_option linter.unusedSimpArgs false
set_option linter.unusedVariables false
namespace Go.Proofs.YtcallecdjebojaaGreat.cp
open Go Go.Ev Go.Sy Go.RowKit Go.Proofs.YtcallecdjebojaaGreat.ck
noncomputable abbrev EBg : Env := envTl Tryz.prog [] (fun _ _ _ => none)
def a_bg : List Value := [.agg ⟨[.int .i64 2, .int .i64 65535, .int .i64 65536]⟩]
def cnB (q k n : Nat) : Row := ⟨[.bool true, .int .i64 2, .int .i64 65535, .int .i64 65536, .int .i64 4096, .int .i64 2147483647, .int .i64 65535, .int .i64 16384, .int .i64 2147483647, .slice (some ⟨q, k, none⟩) n 1, .pointer (some ⟨2, 0, none⟩), .pointer (some ⟨4, 0, none⟩), .pointer (some ⟨5, 0, none⟩), .int .i64 65535, .int .i64 65535, .slice none 0 0, .slice none 0 0, .int .i64 0, .int .i64 1, .bool true, .bool false, .bool false, .bool false, .bool false, .int .i64 0, .slice none 0 0, .bool false, .slice none 0 0], false, .cells false⟩
def quL : List UInt8 := [0, 0, 18, 4, 0, 0, 0, 0, 0, 0, 3, 0, 0, 0, 2, 0, 4, 0, 0, 255, 255, 0, 6, 0, 1, 0, 0, 0, 0, 0, 4, 1, 0, 0, 0, 0]
def quB : Row := ⟨.int .u8 0 :: .int .u8 0 :: .int .u8 18 :: .int .u8 4 :: .int .u8 0 :: .int .u8 0 :: .int .u8 0 :: .int .u8 0 :: .int .u8 0 :: .int .u8 0 :: .int .u8 3 :: .int .u8 0 :: .int .u8 0 :: .int .u8 0 :: .int .u8 2 :: .int .u8 0 :: .int .u8 4 :: .int .u8 0 :: .int .u8 0 :: .int .u8 255 :: .int .u8 255 :: .int .u8 0 :: .int .u8 6 :: .int .u8 0 :: .int .u8 1 :: .int .u8 0 :: .int .u8 0 :: .int .u8 0 :: .int .u8 0 :: .int .u8 0 :: .int .u8 4 :: .int .u8 1 :: .int .u8 0 :: .int .u8 0 :: .int .u8 0 :: .int .u8 0 :: [], false, .cells true⟩
def rdB (q k n : Nat) : Row := ⟨[.slice (some ⟨q, k, none⟩) n 1, .int .i64 16384, .string ⟨#[]⟩, .int .i64 0, .int .i64 0, .int .i64 0], false, .cells false⟩
def lfB : Row := ⟨[.int .u8 0, .int .u8 0, .int .u8 0, .int .u8 4, .int .u8 0, .int .u8 0, .int .u8 0, .int .u8 0, .int .u8 0], false, .cells true⟩
def unB (t : Nat) : Row := ⟨[.pointer (some ⟨t, 0, none⟩), .int .i64 4096, .int .i64 65536, .bool false], false, .cells false⟩
def pkB (t : Nat) : Row := ⟨[.pointer (some ⟨t, 0, none⟩), .bool false, .int .i64 0], false, .cells false⟩
def tbB : Row := ⟨[.slice none 0 0, .int .i64 0, .int .i64 4096], false, .cells false⟩
def l_bg : List (Nat × Row) := [(0, cnB 1 36 0), (1, quB), (2, rdB 3 9 0), (3, lfB), (4, unB 6), (5, pkB 7), (6, tbB), (7, tbB)]
noncomputable def eBg : EntM := (35, fun a r => match a, r with
  | [.agg ⟨[.int .i64 x, .int .i64 y, .int .i64 z]⟩], [] => some (x = 2 ∧ y = 65535 ∧ z = 65536, .pointer (some ⟨0, 0, none⟩), 8, l_bg)
  | _, _ => none)
theorem bg_vc (u : Unit) : mcall EBg noM 5000 35 a_bg ⟨mkR (nums 0 []), ([] : List Row).length⟩ (retB ([] : List Row).length (.pointer (some ⟨0, 0, none⟩)) 8 l_bg) = True := by kernel_rfl
theorem no_calls : CallsOk Tryz.prog (fun _ _ _ => none) := by
  unfold CallsOk
  intros
  simp_all
theorem bg_con : ConM Tryz.prog 35 a_bg [] (.pointer (some ⟨0, 0, none⟩)) 8 l_bg := Go.Proofs.YtcallecdjebojaaGreat.ck.conB (E := EBg) (n := 5000) (by kernel_rfl) (calls_envTl no_calls all_nil) (lok_envTl _ _ _) (bg_vc ()) trivial rfl
theorem eBg_ok : EntOk Tryz.prog eBg := by
  intro a rows p v n' rl h hp
  unfold eBg at h
  simp only at h
  split at h <;> simp only [Option.some.injEq, Prod.mk.injEq, reduceCtorEq] at h
  obtain ⟨rfl, rfl, rfl, rfl⟩ := h
  obtain ⟨rfl, rfl, rfl⟩ := hp
  exact bg_con
end Go.Proofs.YtcallecdjebojaaGreat.cp
