/- A closed call: shell.reader.digit. -/
import Derived.Test.YtnbfhihibgdgpaaGreatDoorSz9
import Derived.Test.YtnbfhihibgdgpaaGreatDoorRows
import Derived.Test.YtnbfhihibgdgpaaGreatDoorLcrQ
import Derived.Test.YtnbfhihibgdgpaaGreatDoorLcrX
set_option maxRecDepth 20000
set_option linter.unusedSimpArgs false
set_option linter.unusedVariables false
namespace Go.Proofs.YtnbfhihibgdgpaaGreatDoor.cr
open Go Go.Ev Go.Sy Go.RowKit Go.Proofs.YtnbfhihibgdgpaaGreatDoor.ck
def a_cw150 : List Value := [.pointer (some ⟨0, 0, none⟩), .int .u8 50]
def r_cw150 : List Row := [⟨[.slice (some ⟨1, 0, none⟩) 5 1, .int .i64 5], false, .cells false⟩,
  ⟨[.string ⟨#[116, 101, 120, 116]⟩, .string ⟨#[49]⟩, .string ⟨#[51]⟩, .string ⟨#[111, 110]⟩, .string ⟨#[61, 37, 50, 70]⟩], false, .cells true⟩]
def v_cw150 : Value := .int .u8 2
def l_cw150 : List (Nat × Row) := [(0, ⟨[.slice (some ⟨1, 0, none⟩) 5 1, .int .i64 5], false, .cells false⟩),
  (1, ⟨[.string ⟨#[116, 101, 120, 116]⟩, .string ⟨#[49]⟩, .string ⟨#[51]⟩, .string ⟨#[111, 110]⟩, .string ⟨#[61, 37, 50, 70]⟩], false, .cells true⟩)]
def e_cw150 : CEnt := ⟨74, a_cw150, r_cw150, v_cw150, 2, l_cw150⟩
theorem cw150_vc (u : Unit) : mcall EPq noM 5000 74 a_cw150 ⟨mkR (nums 0 r_cw150), r_cw150.length⟩ (retB r_cw150.length v_cw150 2 l_cw150) = True := by kernel_rfl
theorem cw150_ok : CEnt.Ok Tryz.prog e_cw150 := Go.Proofs.YtnbfhihibgdgpaaGreatDoor.ck.conB (E := EPq) (n := 5000) (by kernel_rfl) EPq_calls EPq_l (cw150_vc ()) trivial rfl
end Go.Proofs.YtnbfhihibgdgpaaGreatDoor.cr
