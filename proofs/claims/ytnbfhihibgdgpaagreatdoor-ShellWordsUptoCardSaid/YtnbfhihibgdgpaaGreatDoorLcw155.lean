/- A closed call: shell.reader.digit. -/
import Derived.Test.YtnbfhihibgdgpaaGreatDoorSz9
import Derived.Test.YtnbfhihibgdgpaaGreatDoorRows
import Derived.Test.YtnbfhihibgdgpaaGreatDoorLcrQ
import Derived.Test.YtnbfhihibgdgpaaGreatDoorLcrX
set_option maxRecDepth 20000
set_option linter.unusedSimpArgs false
set_option linter.unusedVariables false
namespace Go.Proofs.YtnbfhihibgdgpaaGreatDoor.cr
open Go Go.Ev Go.Sy Go.RowKit Go.Proofs.YtnbfhihibgdgpaaGreatDoor.ck
def a_cw155 : List Value := [.pointer (some ⟨0, 0, none⟩), .int .u8 70]
def r_cw155 : List Row := [⟨[.slice (some ⟨1, 0, none⟩) 5 1, .int .i64 5], false, .cells false⟩,
  ⟨[.string ⟨#[116, 101, 120, 116]⟩, .string ⟨#[49]⟩, .string ⟨#[51]⟩, .string ⟨#[111, 110]⟩, .string ⟨#[61, 37, 50, 70]⟩], false, .cells true⟩]
def v_cw155 : Value := .tuple ⟨[.nilFunc, .bool false, .bool false, .int .i64 58, .int .i64 4, .int .i64 5]⟩
def l_cw155 : List (Nat × Row) := [(0, ⟨[.slice (some ⟨1, 0, none⟩) 5 1, .int .i64 5], false, .cells false⟩),
  (1, ⟨[.string ⟨#[116, 101, 120, 116]⟩, .string ⟨#[49]⟩, .string ⟨#[51]⟩, .string ⟨#[111, 110]⟩, .string ⟨#[61, 37, 50, 70]⟩], false, .cells true⟩)]
def e_cw155 : CEnt := ⟨74, a_cw155, r_cw155, v_cw155, 2, l_cw155⟩
theorem cw155_vc (u : Unit) : mcall EPq noM 5000 74 a_cw155 ⟨mkR (nums 0 r_cw155), r_cw155.length⟩ (panB r_cw155.length 58 4 5 2 l_cw155) = True := by kernel_rfl
theorem cw155_ok : CEnt.Ok Tryz.prog e_cw155 := Go.Proofs.YtnbfhihibgdgpaaGreatDoor.ck.conP (E := EPq) (M := noM) (n := 5000) (by kernel_rfl) EPq_calls EPq_l lm_none (cw155_vc ()) trivial
end Go.Proofs.YtnbfhihibgdgpaaGreatDoor.cr
