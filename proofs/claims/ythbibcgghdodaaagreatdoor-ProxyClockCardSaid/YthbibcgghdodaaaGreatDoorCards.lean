/-
  DERIVED. GIVEN WITH THE SEED: THE CARDS: each row of YthbibcgghdodaaaGreatDoorRows.lean that lists a variable, with what it lists TIED to the program's text (the seventh form; the later family's looks); each row that meets fmt, with fmt's text TOLD by the authors' own Lean function (tested against real Go, not proved from fmt's source: count such statements apart). THE CARD IS WHAT COUNTS. Prove the row's statement (the work); the ties are given (YthbibcgghdodaaaGreatDoorTie.lean); close each card by the builder's one call (the guide's Derived/Test/ToyasCard.lean, 'card_holds'). Laid BY PROGRAM, IN A SANDBOX (cutbox-door.mjs). By AI agents, Wed Nov 11 2026. No macro, syntax, notation, axiom, sorry.
-/
import Derived.Test.YthbibcgghdodaaaGreatDoorRows
import GoSem.ClaimSeven
namespace Go.Proofs.YthbibcgghdodaaaGreatDoor
namespace Rows

/-- THE TIED CARD OF 'reservoirlaw26.ProxyRuns'. -/
def proxyRunsCard : Claim7 := { stood := { row := proxyRunsRow, standIns := [], harness := (true, "08b1a379ca586e3201d173cbf4cee057867431b89292fda4de686c1c65d92e91"), looks := true }, kinds := [], alts := [], laidByText := true, laidKinds := [.data, .data, .data], laidTests := true, laidLooks := .later }
def ProxyRunsCardSaid : Prop := Claim7.holds Tryz.pinned (.plain (OpenSpec.ofChange proxyRunsSpec)) proxyRunsCard

/-- THE TIED CARD OF 'reservoirlaw26.ProxyBounded'. -/
def proxyBoundedCard : Claim7 := { stood := { row := proxyBoundedRow, standIns := [], harness := (true, "08b1a379ca586e3201d173cbf4cee057867431b89292fda4de686c1c65d92e91"), looks := true }, kinds := [], alts := [], laidByText := true, laidKinds := [.data, .data, .data], laidTests := true, laidLooks := .later }
def ProxyBoundedCardSaid : Prop := Claim7.holds Tryz.pinned (.plain (OpenSpec.ofChange proxyBoundedSpec)) proxyBoundedCard

/-- THE TIED CARD OF 'reservoirlaw26.ProxyClock'. -/
def proxyClockCard : Claim7 := { stood := { row := proxyClockRow, standIns := [], harness := (true, "08b1a379ca586e3201d173cbf4cee057867431b89292fda4de686c1c65d92e91"), looks := true }, kinds := [], alts := [], laidByText := true, laidKinds := [.data, .data, .data], laidTests := true, laidLooks := .later }
def ProxyClockCardSaid : Prop := Claim7.holds Tryz.pinned (.plain (OpenSpec.ofChange proxyClockSpec)) proxyClockCard

/-- THE TIED CARD OF 'reservoirlaw26.ProxyPlaces'. -/
def proxyPlacesCard : Claim7 := { stood := { row := proxyPlacesRow, standIns := [], harness := (true, "08b1a379ca586e3201d173cbf4cee057867431b89292fda4de686c1c65d92e91"), looks := true }, kinds := [], alts := [], laidByText := true, laidKinds := [.data, .data, .data], laidTests := true, laidLooks := .later }
def ProxyPlacesCardSaid : Prop := Claim7.holds Tryz.pinned (.plain (OpenSpec.ofChange proxyPlacesSpec)) proxyPlacesCard

/-- THE SECOND FORM's CARD OF 'reservoirlaw26.ProxyRuns'. -/
def proxyRunsUptoCard : Claim7 := { stood := { row := proxyRunsUptoRow, standIns := [], harness := (true, "08b1a379ca586e3201d173cbf4cee057867431b89292fda4de686c1c65d92e91"), looks := true }, kinds := [], alts := [], laidByText := true, laidKinds := [.data, .data, .data], laidTests := true, laidLooks := .later }
def ProxyRunsUptoCardSaid : Prop := Claim7.holds Tryz.pinned (.plain (OpenSpec.upto proxyRunsSpec)) proxyRunsUptoCard

/-- THE SECOND FORM's CARD OF 'reservoirlaw26.ProxyBounded'. -/
def proxyBoundedUptoCard : Claim7 := { stood := { row := proxyBoundedUptoRow, standIns := [], harness := (true, "08b1a379ca586e3201d173cbf4cee057867431b89292fda4de686c1c65d92e91"), looks := true }, kinds := [], alts := [], laidByText := true, laidKinds := [.data, .data, .data], laidTests := true, laidLooks := .later }
def ProxyBoundedUptoCardSaid : Prop := Claim7.holds Tryz.pinned (.plain (OpenSpec.upto proxyBoundedSpec)) proxyBoundedUptoCard

/-- THE SECOND FORM's CARD OF 'reservoirlaw26.ProxyClock'. -/
def proxyClockUptoCard : Claim7 := { stood := { row := proxyClockUptoRow, standIns := [], harness := (true, "08b1a379ca586e3201d173cbf4cee057867431b89292fda4de686c1c65d92e91"), looks := true }, kinds := [], alts := [], laidByText := true, laidKinds := [.data, .data, .data], laidTests := true, laidLooks := .later }
def ProxyClockUptoCardSaid : Prop := Claim7.holds Tryz.pinned (.plain (OpenSpec.upto proxyClockSpec)) proxyClockUptoCard

/-- THE SECOND FORM's CARD OF 'reservoirlaw26.ProxyPlaces'. -/
def proxyPlacesUptoCard : Claim7 := { stood := { row := proxyPlacesUptoRow, standIns := [], harness := (true, "08b1a379ca586e3201d173cbf4cee057867431b89292fda4de686c1c65d92e91"), looks := true }, kinds := [], alts := [], laidByText := true, laidKinds := [.data, .data, .data], laidTests := true, laidLooks := .later }
def ProxyPlacesUptoCardSaid : Prop := Claim7.holds Tryz.pinned (.plain (OpenSpec.upto proxyPlacesSpec)) proxyPlacesUptoCard
end Rows
end Go.Proofs.YthbibcgghdodaaaGreatDoor
