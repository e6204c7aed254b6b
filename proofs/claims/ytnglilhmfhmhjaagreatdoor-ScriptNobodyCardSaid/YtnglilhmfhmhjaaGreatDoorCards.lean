/-
  DERIVED. GIVEN WITH THE SEED: THE CARDS: each row of YtnglilhmfhmhjaaGreatDoorRows.lean that lists a variable, with what it lists TIED to the program's text (the seventh form; the later family's looks); each row that meets fmt, with fmt's text TOLD by the authors' own Lean function (tested against real Go, not proved from fmt's source: count such statements apart). THE CARD IS WHAT COUNTS. Prove the row's statement (the work); the ties are given (YtnglilhmfhmhjaaGreatDoorTie.lean); close each card by the builder's one call (the guide's Derived/Test/ToyasCard.lean, 'card_holds'). Laid BY PROGRAM, IN A SANDBOX (cutbox-door.mjs). By AI agents, Wed Nov 11 2026. No macro, syntax, notation, axiom, sorry.
-/
import Derived.Test.YtnglilhmfhmhjaaGreatDoorRows
import GoSem.ClaimSeven
namespace Go.Proofs.YtnglilhmfhmhjaaGreatDoor
namespace Rows

/-- THE TIED CARD OF 'reservoirlaw27.ScriptRuns'. -/
def scriptRunsCard : Claim7 := { stood := { row := scriptRunsRow, standIns := [], harness := (true, "0fc414a3a237b97ad369d95578c774ad37c36e116dc652824684c76a56966ce1"), looks := true }, kinds := [], alts := [], laidByText := true, laidKinds := [.data, .data, .data], laidTests := true, laidLooks := .later }
def ScriptRunsCardSaid : Prop := Claim7.holds Tryz.pinned (.plain (OpenSpec.ofChange scriptRunsSpec)) scriptRunsCard

/-- THE TIED CARD OF 'reservoirlaw27.ScriptLegal'. -/
def scriptLegalCard : Claim7 := { stood := { row := scriptLegalRow, standIns := [], harness := (true, "0fc414a3a237b97ad369d95578c774ad37c36e116dc652824684c76a56966ce1"), looks := true }, kinds := [], alts := [], laidByText := true, laidKinds := [.data, .data, .data], laidTests := true, laidLooks := .later }
def ScriptLegalCardSaid : Prop := Claim7.holds Tryz.pinned (.plain (OpenSpec.ofChange scriptLegalSpec)) scriptLegalCard

/-- THE TIED CARD OF 'reservoirlaw27.ScriptTwins'. -/
def scriptTwinsCard : Claim7 := { stood := { row := scriptTwinsRow, standIns := [], harness := (true, "0fc414a3a237b97ad369d95578c774ad37c36e116dc652824684c76a56966ce1"), looks := true }, kinds := [], alts := [], laidByText := true, laidKinds := [.data, .data, .data], laidTests := true, laidLooks := .later }
def ScriptTwinsCardSaid : Prop := Claim7.holds Tryz.pinned (.plain (OpenSpec.ofChange scriptTwinsSpec)) scriptTwinsCard

/-- THE TIED CARD OF 'reservoirlaw27.ScriptNobody'. -/
def scriptNobodyCard : Claim7 := { stood := { row := scriptNobodyRow, standIns := [], harness := (true, "0fc414a3a237b97ad369d95578c774ad37c36e116dc652824684c76a56966ce1"), looks := true }, kinds := [], alts := [], laidByText := true, laidKinds := [.data, .data, .data], laidTests := true, laidLooks := .later }
def ScriptNobodyCardSaid : Prop := Claim7.holds Tryz.pinned (.plain (OpenSpec.ofChange scriptNobodySpec)) scriptNobodyCard

/-- THE SECOND FORM's CARD OF 'reservoirlaw27.ScriptRuns'. -/
def scriptRunsUptoCard : Claim7 := { stood := { row := scriptRunsUptoRow, standIns := [], harness := (true, "0fc414a3a237b97ad369d95578c774ad37c36e116dc652824684c76a56966ce1"), looks := true }, kinds := [], alts := [], laidByText := true, laidKinds := [.data, .data, .data], laidTests := true, laidLooks := .later }
def ScriptRunsUptoCardSaid : Prop := Claim7.holds Tryz.pinned (.plain (OpenSpec.upto scriptRunsSpec)) scriptRunsUptoCard

/-- THE SECOND FORM's CARD OF 'reservoirlaw27.ScriptLegal'. -/
def scriptLegalUptoCard : Claim7 := { stood := { row := scriptLegalUptoRow, standIns := [], harness := (true, "0fc414a3a237b97ad369d95578c774ad37c36e116dc652824684c76a56966ce1"), looks := true }, kinds := [], alts := [], laidByText := true, laidKinds := [.data, .data, .data], laidTests := true, laidLooks := .later }
def ScriptLegalUptoCardSaid : Prop := Claim7.holds Tryz.pinned (.plain (OpenSpec.upto scriptLegalSpec)) scriptLegalUptoCard

/-- THE SECOND FORM's CARD OF 'reservoirlaw27.ScriptTwins'. -/
def scriptTwinsUptoCard : Claim7 := { stood := { row := scriptTwinsUptoRow, standIns := [], harness := (true, "0fc414a3a237b97ad369d95578c774ad37c36e116dc652824684c76a56966ce1"), looks := true }, kinds := [], alts := [], laidByText := true, laidKinds := [.data, .data, .data], laidTests := true, laidLooks := .later }
def ScriptTwinsUptoCardSaid : Prop := Claim7.holds Tryz.pinned (.plain (OpenSpec.upto scriptTwinsSpec)) scriptTwinsUptoCard

/-- THE SECOND FORM's CARD OF 'reservoirlaw27.ScriptNobody'. -/
def scriptNobodyUptoCard : Claim7 := { stood := { row := scriptNobodyUptoRow, standIns := [], harness := (true, "0fc414a3a237b97ad369d95578c774ad37c36e116dc652824684c76a56966ce1"), looks := true }, kinds := [], alts := [], laidByText := true, laidKinds := [.data, .data, .data], laidTests := true, laidLooks := .later }
def ScriptNobodyUptoCardSaid : Prop := Claim7.holds Tryz.pinned (.plain (OpenSpec.upto scriptNobodySpec)) scriptNobodyUptoCard
end Rows
end Go.Proofs.YtnglilhmfhmhjaaGreatDoor
