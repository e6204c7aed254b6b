/-
  DERIVED. GIVEN WITH THE SEED: THE CARDS: each row of YtkjppedfedaenaaGreatDoorRows.lean that lists a variable, with what it lists TIED to the program's text (the seventh form; the later family's looks); each row that meets fmt, with fmt's text TOLD by the authors' own Lean function (tested against real Go, not proved from fmt's source: count such statements apart). THE CARD IS WHAT COUNTS. Prove the row's statement (the work); the ties are given (YtkjppedfedaenaaGreatDoorTie.lean); close each card by the builder's one call (the guide's Derived/Test/ToyasCard.lean, 'card_holds'). Laid BY PROGRAM, IN A SANDBOX (cutbox-door.mjs). By AI agents, Wed Nov 11 2026. No macro, syntax, notation, axiom, sorry.
-/
import Derived.Test.YtkjppedfedaenaaGreatDoorRows
import GoSem.ClaimSeven
namespace Go.Proofs.YtkjppedfedaenaaGreatDoor
namespace Rows

/-- THE TIED CARD OF 'reservoirlaw28.CalmRuns'. -/
def calmRunsCard : Claim7 := { stood := { row := calmRunsRow, standIns := [], harness := (true, "7cc8ac1be8af23dca3ff4a097453764a0720b116cfb1bba7a5da4f5b174e4fb1"), looks := true }, kinds := [], alts := [], laidByText := true, laidKinds := [.data, .data, .data], laidTests := true, laidLooks := .later }
def CalmRunsCardSaid : Prop := Claim7.holds Tryz.pinned (.plain (OpenSpec.ofChange calmRunsSpec)) calmRunsCard

/-- THE TIED CARD OF 'reservoirlaw28.CalmReplies'. -/
def calmRepliesCard : Claim7 := { stood := { row := calmRepliesRow, standIns := [], harness := (true, "7cc8ac1be8af23dca3ff4a097453764a0720b116cfb1bba7a5da4f5b174e4fb1"), looks := true }, kinds := [], alts := [], laidByText := true, laidKinds := [.data, .data, .data], laidTests := true, laidLooks := .later }
def CalmRepliesCardSaid : Prop := Claim7.holds Tryz.pinned (.plain (OpenSpec.ofChange calmRepliesSpec)) calmRepliesCard

/-- THE TIED CARD OF 'reservoirlaw28.CalmAnswers'. -/
def calmAnswersCard : Claim7 := { stood := { row := calmAnswersRow, standIns := [], harness := (true, "7cc8ac1be8af23dca3ff4a097453764a0720b116cfb1bba7a5da4f5b174e4fb1"), looks := true }, kinds := [], alts := [], laidByText := true, laidKinds := [.data, .data, .data], laidTests := true, laidLooks := .later }
def CalmAnswersCardSaid : Prop := Claim7.holds Tryz.pinned (.plain (OpenSpec.ofChange calmAnswersSpec)) calmAnswersCard

/-- THE TIED CARD OF 'reservoirlaw28.CalmQuiet'. -/
def calmQuietCard : Claim7 := { stood := { row := calmQuietRow, standIns := [], harness := (true, "7cc8ac1be8af23dca3ff4a097453764a0720b116cfb1bba7a5da4f5b174e4fb1"), looks := true }, kinds := [], alts := [], laidByText := true, laidKinds := [.data, .data, .data], laidTests := true, laidLooks := .later }
def CalmQuietCardSaid : Prop := Claim7.holds Tryz.pinned (.plain (OpenSpec.ofChange calmQuietSpec)) calmQuietCard

/-- THE SECOND FORM's CARD OF 'reservoirlaw28.CalmRuns'. -/
def calmRunsUptoCard : Claim7 := { stood := { row := calmRunsUptoRow, standIns := [], harness := (true, "7cc8ac1be8af23dca3ff4a097453764a0720b116cfb1bba7a5da4f5b174e4fb1"), looks := true }, kinds := [], alts := [], laidByText := true, laidKinds := [.data, .data, .data], laidTests := true, laidLooks := .later }
def CalmRunsUptoCardSaid : Prop := Claim7.holds Tryz.pinned (.plain (OpenSpec.upto calmRunsSpec)) calmRunsUptoCard

/-- THE SECOND FORM's CARD OF 'reservoirlaw28.CalmReplies'. -/
def calmRepliesUptoCard : Claim7 := { stood := { row := calmRepliesUptoRow, standIns := [], harness := (true, "7cc8ac1be8af23dca3ff4a097453764a0720b116cfb1bba7a5da4f5b174e4fb1"), looks := true }, kinds := [], alts := [], laidByText := true, laidKinds := [.data, .data, .data], laidTests := true, laidLooks := .later }
def CalmRepliesUptoCardSaid : Prop := Claim7.holds Tryz.pinned (.plain (OpenSpec.upto calmRepliesSpec)) calmRepliesUptoCard

/-- THE SECOND FORM's CARD OF 'reservoirlaw28.CalmAnswers'. -/
def calmAnswersUptoCard : Claim7 := { stood := { row := calmAnswersUptoRow, standIns := [], harness := (true, "7cc8ac1be8af23dca3ff4a097453764a0720b116cfb1bba7a5da4f5b174e4fb1"), looks := true }, kinds := [], alts := [], laidByText := true, laidKinds := [.data, .data, .data], laidTests := true, laidLooks := .later }
def CalmAnswersUptoCardSaid : Prop := Claim7.holds Tryz.pinned (.plain (OpenSpec.upto calmAnswersSpec)) calmAnswersUptoCard

/-- THE SECOND FORM's CARD OF 'reservoirlaw28.CalmQuiet'. -/
def calmQuietUptoCard : Claim7 := { stood := { row := calmQuietUptoRow, standIns := [], harness := (true, "7cc8ac1be8af23dca3ff4a097453764a0720b116cfb1bba7a5da4f5b174e4fb1"), looks := true }, kinds := [], alts := [], laidByText := true, laidKinds := [.data, .data, .data], laidTests := true, laidLooks := .later }
def CalmQuietUptoCardSaid : Prop := Claim7.holds Tryz.pinned (.plain (OpenSpec.upto calmQuietSpec)) calmQuietUptoCard
end Rows
end Go.Proofs.YtkjppedfedaenaaGreatDoor
