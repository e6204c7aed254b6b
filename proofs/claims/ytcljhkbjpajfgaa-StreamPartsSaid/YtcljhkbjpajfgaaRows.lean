/-
  No cell of these rows narrows 'for every input' (looked for: loops, veiled, ifaces, maps, wideKeys, modest, calm, conditions, laid).
  DERIVED. THE GIVEN ROWS OF THIS SEAT. 6 by the template 'for every input the law returns true; each argument reads behind the call as it read before'; 0 by the template 'total and deterministic' (their statements: YtcljhkbjpajfgaaTotals.lean).
  GIVEN WITH THE SEED: the statements are not yours to turn. If you find one false, say at which input.
  Laid BY PROGRAM, IN A SANDBOX (cutbox-rows.mjs): the forced cells as the released guide's own fill.sh prints them over the translation 9d7085324d46a6d8… (all of the seat's roots in one cut). By AI agents, Wed Nov 11 2026. No macro, syntax, notation, axiom, sorry.
-/
import Derived.Test.YtcljhkbjpajfgaaChecked
import GoSem.Claim
import GoSem.ClaimJoined
import GoSem.ClaimMapViews
import Derived.JoinedTies
import Derived.KernelRfl
namespace Go.Proofs.Ytcljhkbjpajfgaa
/- THE CELL 'sum', in the pinned program and in every row, IS THE sha256 OF THE DUMP (.gsa) THAT YtcljhkbjpajfgaaProg.lean LOADS. Nothing in Lean hashes anything: it is a label: what it is worth is what the hold of that sum in a sandbox is worth. -/
noncomputable def Try.pinned : Pinned := { name := "ytcljhkbjpajfgaa", sum := "9d7085324d46a6d81141d6fd914958c42df9744b0dd68be564ac73f6939600de", checked := Try.checked }
namespace Rows
def none {H : Type} : Left H := { results := [], args := [] }

/-- 'reservoirlaw13.StreamRuns': WHATEVER THE INPUT: true; the input reads as it did. -/
def streamRunsSpec : ChangeSpec := { name := "streamRuns", fn := fun _ => fun
  | [] => { results := [.lit (.bool true)], args := [] }
  | _ => none }
def streamRunsRow : OpenClaim := { program := "ytcljhkbjpajfgaa", sum := "9d7085324d46a6d81141d6fd914958c42df9744b0dd68be564ac73f6939600de", func := "reservoir/reservoirlaw13.StreamRuns", spec := "streamRuns", apart := false }
def StreamRunsSaid : Prop := streamRunsRow.holds Try.pinned (OpenSpec.ofChange streamRunsSpec)

/-- ITS FALSE NEIGHBOUR: 'it returns false'. Refute it at one input. -/
def streamRunsWrong : ChangeSpec := { name := "streamRuns", fn := fun _ => fun
  | [] => { results := [.lit (.bool false)], args := [] }
  | _ => none }
def StreamRunsWrongFalsely : Prop := streamRunsRow.holds Try.pinned (OpenSpec.ofChange streamRunsWrong)

/-- 'reservoirlaw13.StreamGoes': WHATEVER THE INPUT: true; the input reads as it did. -/
def streamGoesSpec : ChangeSpec := { name := "streamGoes", fn := fun _ => fun
  | [d1, d2] => { results := [.lit (.bool true)], args := [d1, d2] }
  | _ => none }
def streamGoesRow : OpenClaim := { program := "ytcljhkbjpajfgaa", sum := "9d7085324d46a6d81141d6fd914958c42df9744b0dd68be564ac73f6939600de", func := "reservoir/reservoirlaw13.StreamGoes", spec := "streamGoes", apart := false }
def StreamGoesSaid : Prop := streamGoesRow.holds Try.pinned (OpenSpec.ofChange streamGoesSpec)

/-- ITS FALSE NEIGHBOUR: 'it returns false'. Refute it at one input. -/
def streamGoesWrong : ChangeSpec := { name := "streamGoes", fn := fun _ => fun
  | [d1, d2] => { results := [.lit (.bool false)], args := [d1, d2] }
  | _ => none }
def StreamGoesWrongFalsely : Prop := streamGoesRow.holds Try.pinned (OpenSpec.ofChange streamGoesWrong)

/-- 'reservoirlaw13.StreamEnds': WHATEVER THE INPUT: true; the input reads as it did. -/
def streamEndsSpec : ChangeSpec := { name := "streamEnds", fn := fun _ => fun
  | [d] => { results := [.lit (.bool true)], args := [d] }
  | _ => none }
def streamEndsRow : OpenClaim := { program := "ytcljhkbjpajfgaa", sum := "9d7085324d46a6d81141d6fd914958c42df9744b0dd68be564ac73f6939600de", func := "reservoir/reservoirlaw13.StreamEnds", spec := "streamEnds", apart := false }
def StreamEndsSaid : Prop := streamEndsRow.holds Try.pinned (OpenSpec.ofChange streamEndsSpec)

/-- ITS FALSE NEIGHBOUR: 'it returns false'. Refute it at one input. -/
def streamEndsWrong : ChangeSpec := { name := "streamEnds", fn := fun _ => fun
  | [d] => { results := [.lit (.bool false)], args := [d] }
  | _ => none }
def StreamEndsWrongFalsely : Prop := streamEndsRow.holds Try.pinned (OpenSpec.ofChange streamEndsWrong)

/-- 'reservoirlaw13.StreamMirrors': WHATEVER THE INPUT: true; the input reads as it did. -/
def streamMirrorsSpec : ChangeSpec := { name := "streamMirrors", fn := fun _ => fun
  | [d] => { results := [.lit (.bool true)], args := [d] }
  | _ => none }
def streamMirrorsRow : OpenClaim := { program := "ytcljhkbjpajfgaa", sum := "9d7085324d46a6d81141d6fd914958c42df9744b0dd68be564ac73f6939600de", func := "reservoir/reservoirlaw13.StreamMirrors", spec := "streamMirrors", apart := false }
def StreamMirrorsSaid : Prop := streamMirrorsRow.holds Try.pinned (OpenSpec.ofChange streamMirrorsSpec)

/-- ITS FALSE NEIGHBOUR: 'it returns false'. Refute it at one input. -/
def streamMirrorsWrong : ChangeSpec := { name := "streamMirrors", fn := fun _ => fun
  | [d] => { results := [.lit (.bool false)], args := [d] }
  | _ => none }
def StreamMirrorsWrongFalsely : Prop := streamMirrorsRow.holds Try.pinned (OpenSpec.ofChange streamMirrorsWrong)

/-- 'reservoirlaw13.StreamCloses': WHATEVER THE INPUT: true; the input reads as it did. -/
def streamClosesSpec : ChangeSpec := { name := "streamCloses", fn := fun _ => fun
  | [d1, d2, d3] => { results := [.lit (.bool true)], args := [d1, d2, d3] }
  | _ => none }
def streamClosesRow : OpenClaim := { program := "ytcljhkbjpajfgaa", sum := "9d7085324d46a6d81141d6fd914958c42df9744b0dd68be564ac73f6939600de", func := "reservoir/reservoirlaw13.StreamCloses", spec := "streamCloses", apart := false }
def StreamClosesSaid : Prop := streamClosesRow.holds Try.pinned (OpenSpec.ofChange streamClosesSpec)

/-- ITS FALSE NEIGHBOUR: 'it returns false'. Refute it at one input. -/
def streamClosesWrong : ChangeSpec := { name := "streamCloses", fn := fun _ => fun
  | [d1, d2, d3] => { results := [.lit (.bool false)], args := [d1, d2, d3] }
  | _ => none }
def StreamClosesWrongFalsely : Prop := streamClosesRow.holds Try.pinned (OpenSpec.ofChange streamClosesWrong)

/-- 'reservoirlaw13.StreamParts': WHATEVER THE INPUT: true; the input reads as it did. -/
def streamPartsSpec : ChangeSpec := { name := "streamParts", fn := fun _ => fun
  | [d1, d2, d3] => { results := [.lit (.bool true)], args := [d1, d2, d3] }
  | _ => none }
def streamPartsRow : OpenClaim := { program := "ytcljhkbjpajfgaa", sum := "9d7085324d46a6d81141d6fd914958c42df9744b0dd68be564ac73f6939600de", func := "reservoir/reservoirlaw13.StreamParts", spec := "streamParts", apart := false }
def StreamPartsSaid : Prop := streamPartsRow.holds Try.pinned (OpenSpec.ofChange streamPartsSpec)

/-- ITS FALSE NEIGHBOUR: 'it returns false'. Refute it at one input. -/
def streamPartsWrong : ChangeSpec := { name := "streamParts", fn := fun _ => fun
  | [d1, d2, d3] => { results := [.lit (.bool false)], args := [d1, d2, d3] }
  | _ => none }
def StreamPartsWrongFalsely : Prop := streamPartsRow.holds Try.pinned (OpenSpec.ofChange streamPartsWrong)

/- THE SECOND FORM. 'bulk': how many values and letters a reading holds, each counted each time it is reached (what is shared counts as often as it is met; a slice's spare places count too). A statement '..UptoSaid' is the law's where the arguments, and the package variables that the reading takes, are together of bulk at most 1048576: NARROWER than '..Said'. Prove '..Said' where nothing that the law and all that it calls make is longer than what came in: it says more and counts as full. Else prove '..UptoSaid'. A law counts once. -/
mutual
def uptoBulk {H : Type} : DataW H → Nat
  | .lit (.string bytes) => bytes.length + 1
  | .lit _ => 1
  | .nil => 1
  | .ptr d => uptoBulk d + 1
  | .slice elems spare => uptoBulkAll elems + uptoBulkAll spare + 1
  | .agg parts => uptoBulkAll parts + 1
  | .iface _ d => uptoBulk d + 1
  | .map entries => uptoBulkEntries entries + 1
  | .held _ => 1
def uptoBulkAll {H : Type} : List (DataW H) → Nat
  | [] => 0
  | d :: r => uptoBulk d + uptoBulkAll r
def uptoBulkEntries {H : Type} : List (Lit × DataW H) → Nat
  | [] => 0
  | x :: r => uptoBulkEntry x + uptoBulkEntries r
def uptoBulkEntry {H : Type} : Lit × DataW H → Nat
  | (.string bytes, d) => bytes.length + uptoBulk d + 1
  | (_, d) => uptoBulk d + 1
 end
def uptoSmall : (H : Type) → List (DataW H) → Bool := fun _ ds => decide (uptoBulkAll ds ≤ 1048576)
def OpenSpec.upto (s : _root_.Go.ChangeSpec) : _root_.Go.OpenSpec := { _root_.Go.OpenSpec.ofChange s with cond := some uptoSmall }

/-- 'reservoirlaw13.StreamRuns', WHERE WHAT IT READS IS OF BULK AT MOST 1048576: true; the input reads as it did. -/
def streamRunsUptoRow : OpenClaim := { program := "ytcljhkbjpajfgaa", sum := "9d7085324d46a6d81141d6fd914958c42df9744b0dd68be564ac73f6939600de", func := "reservoir/reservoirlaw13.StreamRuns", spec := "streamRuns", apart := false, narrowed := true }
def StreamRunsUptoSaid : Prop := streamRunsUptoRow.holds Try.pinned (OpenSpec.upto streamRunsSpec)

/-- 'reservoirlaw13.StreamGoes', WHERE WHAT IT READS IS OF BULK AT MOST 1048576: true; the input reads as it did. -/
def streamGoesUptoRow : OpenClaim := { program := "ytcljhkbjpajfgaa", sum := "9d7085324d46a6d81141d6fd914958c42df9744b0dd68be564ac73f6939600de", func := "reservoir/reservoirlaw13.StreamGoes", spec := "streamGoes", apart := false, narrowed := true }
def StreamGoesUptoSaid : Prop := streamGoesUptoRow.holds Try.pinned (OpenSpec.upto streamGoesSpec)

/-- 'reservoirlaw13.StreamEnds', WHERE WHAT IT READS IS OF BULK AT MOST 1048576: true; the input reads as it did. -/
def streamEndsUptoRow : OpenClaim := { program := "ytcljhkbjpajfgaa", sum := "9d7085324d46a6d81141d6fd914958c42df9744b0dd68be564ac73f6939600de", func := "reservoir/reservoirlaw13.StreamEnds", spec := "streamEnds", apart := false, narrowed := true }
def StreamEndsUptoSaid : Prop := streamEndsUptoRow.holds Try.pinned (OpenSpec.upto streamEndsSpec)

/-- 'reservoirlaw13.StreamMirrors', WHERE WHAT IT READS IS OF BULK AT MOST 1048576: true; the input reads as it did. -/
def streamMirrorsUptoRow : OpenClaim := { program := "ytcljhkbjpajfgaa", sum := "9d7085324d46a6d81141d6fd914958c42df9744b0dd68be564ac73f6939600de", func := "reservoir/reservoirlaw13.StreamMirrors", spec := "streamMirrors", apart := false, narrowed := true }
def StreamMirrorsUptoSaid : Prop := streamMirrorsUptoRow.holds Try.pinned (OpenSpec.upto streamMirrorsSpec)

/-- 'reservoirlaw13.StreamCloses', WHERE WHAT IT READS IS OF BULK AT MOST 1048576: true; the input reads as it did. -/
def streamClosesUptoRow : OpenClaim := { program := "ytcljhkbjpajfgaa", sum := "9d7085324d46a6d81141d6fd914958c42df9744b0dd68be564ac73f6939600de", func := "reservoir/reservoirlaw13.StreamCloses", spec := "streamCloses", apart := false, narrowed := true }
def StreamClosesUptoSaid : Prop := streamClosesUptoRow.holds Try.pinned (OpenSpec.upto streamClosesSpec)

/-- 'reservoirlaw13.StreamParts', WHERE WHAT IT READS IS OF BULK AT MOST 1048576: true; the input reads as it did. -/
def streamPartsUptoRow : OpenClaim := { program := "ytcljhkbjpajfgaa", sum := "9d7085324d46a6d81141d6fd914958c42df9744b0dd68be564ac73f6939600de", func := "reservoir/reservoirlaw13.StreamParts", spec := "streamParts", apart := false, narrowed := true }
def StreamPartsUptoSaid : Prop := streamPartsUptoRow.holds Try.pinned (OpenSpec.upto streamPartsSpec)

end Rows
end Go.Proofs.Ytcljhkbjpajfgaa
