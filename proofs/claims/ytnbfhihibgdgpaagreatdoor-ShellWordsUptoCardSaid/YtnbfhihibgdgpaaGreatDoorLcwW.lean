/- A closed call that panics in the midst of a region of open order: a word's second digit is none. -/
import Derived.Test.YtnbfhihibgdgpaaGreatDoorSz9
import Derived.Test.YtnbfhihibgdgpaaGreatDoorRows
import Derived.Test.YtnbfhihibgdgpaaGreatDoorLcw
import Derived.Test.YtnbfhihibgdgpaaGreatDoorLrnW
set_option maxRecDepth 20000
set_option linter.unusedSimpArgs false
set_option linter.unusedVariables false
namespace Go.Proofs.YtnbfhihibgdgpaaGreatDoor.cr
open Go Go.Ev Go.Sy Go.RowKit Go.Proofs.YtnbfhihibgdgpaaGreatDoor.ck Go.Proofs.YtnbfhihibgdgpaaGreatDoor.gm
def a_cwW : List Value := [.pointer (some ⟨0, 0, none⟩), .string ⟨#[37, 50, 70]⟩]
def r_cwW : List Row := r_cw155
def l_cwW : List (Nat × Row) := l_cw155
def e_cwW : CEnt := ⟨54, a_cwW, r_cwW, panV 58 4 5, 2, l_cwW⟩
def p_cwW : List Nat := [0, 1, 0, 1, 0, 1, 0, 0, 1, 0, 0, 1, 0, 1, 1]
noncomputable def m_cwW := mOf [(54, p_cwW, specTwo Ecw 54 p_cwW 5 12)]
def LcwW : List CEnt := [e_cwW]
noncomputable def ocwW : CallF := oC Tryz.prog LcwW ocw
noncomputable abbrev EcwW : Env := envTl Tryz.prog [] ocwW
theorem cwW_vc (u : Unit) : mcall Ecw m_cwW 5000 54 a_cwW ⟨mkR (nums 0 r_cwW), r_cwW.length⟩ (panB r_cwW.length 58 4 5 2 l_cwW) =
  (∀ (tm : Tr Value), True) := by kernel_rfl
theorem cwW_ok : CEnt.Ok Tryz.prog e_cwW := Go.Proofs.YtnbfhihibgdgpaaGreatDoor.ck.conP (E := Ecw) (M := m_cwW) (n := 5000) (by kernel_rfl) Ecw_calls Ecw_l (lm_one (two_piece (by kernel_rfl) Ecw_calls)) (cwW_vc ()) (by intros; trivial)
theorem ocwW_ok : CallsOk Tryz.prog ocwW := oC_ok (all_c cwW_ok (fun _ h => by simp at h)) ocw_ok
theorem EcwW_calls : CallsOk Tryz.prog (oOf EcwW) := calls_envTl ocwW_ok all_nil
theorem EcwW_l : LOk EcwW := lok_envTl _ _ _
end Go.Proofs.YtnbfhihibgdgpaaGreatDoor.cr
