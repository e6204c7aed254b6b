/-
  No cell of these rows narrows 'for every input' (looked for: loops, veiled, ifaces, maps, wideKeys, modest, calm, conditions, laid).
  DERIVED. THE GIVEN ROWS OF THIS SEAT. 6 by the template 'for every input the law returns true; each argument reads behind the call as it read before'; 0 by the template 'total and deterministic' (their statements: YteodlmfnkjdhhaaTotals.lean).
  GIVEN WITH THE SEED: the statements are not yours to turn. If you find one false, say at which input.
  Laid BY PROGRAM, IN A SANDBOX (cutbox-rows.mjs): the forced cells as the released guide's own fill.sh prints them over the translation 358475abc4ad525f… (all of the seat's roots in one cut). By AI agents, Wed Nov 11 2026. No macro, syntax, notation, axiom, sorry.
-/
import Derived.Test.YteodlmfnkjdhhaaChecked
import GoSem.Claim
import GoSem.ClaimJoined
import GoSem.ClaimMapViews
import Derived.JoinedTies
import Derived.KernelRfl
namespace Go.Proofs.Yteodlmfnkjdhhaa
/- THE CELL 'sum', in the pinned program and in every row, IS THE sha256 OF THE DUMP (.gsa) THAT YteodlmfnkjdhhaaProg.lean LOADS. Nothing in Lean hashes anything: it is a label: what it is worth is what the hold of that sum in a sandbox is worth. -/
noncomputable def Try.pinned : Pinned := { name := "yteodlmfnkjdhhaa", sum := "358475abc4ad525f75cce5058cd8fc7064ebeed8897e4f0ebdd4bb92a256cc89", checked := Try.checked }
namespace Rows
def none {H : Type} : Left H := { results := [], args := [] }

/-- 'reservoirlaw15.MessageRuns': WHATEVER THE INPUT: true; the input reads as it did. -/
def messageRunsSpec : ChangeSpec := { name := "messageRuns", fn := fun _ => fun
  | [] => { results := [.lit (.bool true)], args := [] }
  | _ => none }
def messageRunsRow : OpenClaim := { program := "yteodlmfnkjdhhaa", sum := "358475abc4ad525f75cce5058cd8fc7064ebeed8897e4f0ebdd4bb92a256cc89", func := "reservoir/reservoirlaw15.MessageRuns", spec := "messageRuns", apart := false }
def MessageRunsSaid : Prop := messageRunsRow.holds Try.pinned (OpenSpec.ofChange messageRunsSpec)

/-- ITS FALSE NEIGHBOUR: 'it returns false'. Refute it at one input. -/
def messageRunsWrong : ChangeSpec := { name := "messageRuns", fn := fun _ => fun
  | [] => { results := [.lit (.bool false)], args := [] }
  | _ => none }
def MessageRunsWrongFalsely : Prop := messageRunsRow.holds Try.pinned (OpenSpec.ofChange messageRunsWrong)

/-- 'reservoirlaw15.MessageTells': WHATEVER THE INPUT: true; the input reads as it did. -/
def messageTellsSpec : ChangeSpec := { name := "messageTells", fn := fun _ => fun
  | [d] => { results := [.lit (.bool true)], args := [d] }
  | _ => none }
def messageTellsRow : OpenClaim := { program := "yteodlmfnkjdhhaa", sum := "358475abc4ad525f75cce5058cd8fc7064ebeed8897e4f0ebdd4bb92a256cc89", func := "reservoir/reservoirlaw15.MessageTells", spec := "messageTells", apart := false }
def MessageTellsSaid : Prop := messageTellsRow.holds Try.pinned (OpenSpec.ofChange messageTellsSpec)

/-- ITS FALSE NEIGHBOUR: 'it returns false'. Refute it at one input. -/
def messageTellsWrong : ChangeSpec := { name := "messageTells", fn := fun _ => fun
  | [d] => { results := [.lit (.bool false)], args := [d] }
  | _ => none }
def MessageTellsWrongFalsely : Prop := messageTellsRow.holds Try.pinned (OpenSpec.ofChange messageTellsWrong)

/-- 'reservoirlaw15.MessageBack': WHATEVER THE INPUT: true; the input reads as it did. -/
def messageBackSpec : ChangeSpec := { name := "messageBack", fn := fun _ => fun
  | [d] => { results := [.lit (.bool true)], args := [d] }
  | _ => none }
def messageBackRow : OpenClaim := { program := "yteodlmfnkjdhhaa", sum := "358475abc4ad525f75cce5058cd8fc7064ebeed8897e4f0ebdd4bb92a256cc89", func := "reservoir/reservoirlaw15.MessageBack", spec := "messageBack", apart := false }
def MessageBackSaid : Prop := messageBackRow.holds Try.pinned (OpenSpec.ofChange messageBackSpec)

/-- ITS FALSE NEIGHBOUR: 'it returns false'. Refute it at one input. -/
def messageBackWrong : ChangeSpec := { name := "messageBack", fn := fun _ => fun
  | [d] => { results := [.lit (.bool false)], args := [d] }
  | _ => none }
def MessageBackWrongFalsely : Prop := messageBackRow.holds Try.pinned (OpenSpec.ofChange messageBackWrong)

/-- 'reservoirlaw15.MessageHops': WHATEVER THE INPUT: true; the input reads as it did. -/
def messageHopsSpec : ChangeSpec := { name := "messageHops", fn := fun _ => fun
  | [d] => { results := [.lit (.bool true)], args := [d] }
  | _ => none }
def messageHopsRow : OpenClaim := { program := "yteodlmfnkjdhhaa", sum := "358475abc4ad525f75cce5058cd8fc7064ebeed8897e4f0ebdd4bb92a256cc89", func := "reservoir/reservoirlaw15.MessageHops", spec := "messageHops", apart := false }
def MessageHopsSaid : Prop := messageHopsRow.holds Try.pinned (OpenSpec.ofChange messageHopsSpec)

/-- ITS FALSE NEIGHBOUR: 'it returns false'. Refute it at one input. -/
def messageHopsWrong : ChangeSpec := { name := "messageHops", fn := fun _ => fun
  | [d] => { results := [.lit (.bool false)], args := [d] }
  | _ => none }
def MessageHopsWrongFalsely : Prop := messageHopsRow.holds Try.pinned (OpenSpec.ofChange messageHopsWrong)

/-- 'reservoirlaw15.MessageOne': WHATEVER THE INPUT: true; the input reads as it did. -/
def messageOneSpec : ChangeSpec := { name := "messageOne", fn := fun _ => fun
  | [d1, d2, d3] => { results := [.lit (.bool true)], args := [d1, d2, d3] }
  | _ => none }
def messageOneRow : OpenClaim := { program := "yteodlmfnkjdhhaa", sum := "358475abc4ad525f75cce5058cd8fc7064ebeed8897e4f0ebdd4bb92a256cc89", func := "reservoir/reservoirlaw15.MessageOne", spec := "messageOne", apart := false }
def MessageOneSaid : Prop := messageOneRow.holds Try.pinned (OpenSpec.ofChange messageOneSpec)

/-- ITS FALSE NEIGHBOUR: 'it returns false'. Refute it at one input. -/
def messageOneWrong : ChangeSpec := { name := "messageOne", fn := fun _ => fun
  | [d1, d2, d3] => { results := [.lit (.bool false)], args := [d1, d2, d3] }
  | _ => none }
def MessageOneWrongFalsely : Prop := messageOneRow.holds Try.pinned (OpenSpec.ofChange messageOneWrong)

/-- 'reservoirlaw15.MessageOrder': WHATEVER THE INPUT: true; the input reads as it did. -/
def messageOrderSpec : ChangeSpec := { name := "messageOrder", fn := fun _ => fun
  | [d1, d2, d3, d4] => { results := [.lit (.bool true)], args := [d1, d2, d3, d4] }
  | _ => none }
def messageOrderRow : OpenClaim := { program := "yteodlmfnkjdhhaa", sum := "358475abc4ad525f75cce5058cd8fc7064ebeed8897e4f0ebdd4bb92a256cc89", func := "reservoir/reservoirlaw15.MessageOrder", spec := "messageOrder", apart := false }
def MessageOrderSaid : Prop := messageOrderRow.holds Try.pinned (OpenSpec.ofChange messageOrderSpec)

/-- ITS FALSE NEIGHBOUR: 'it returns false'. Refute it at one input. -/
def messageOrderWrong : ChangeSpec := { name := "messageOrder", fn := fun _ => fun
  | [d1, d2, d3, d4] => { results := [.lit (.bool false)], args := [d1, d2, d3, d4] }
  | _ => none }
def MessageOrderWrongFalsely : Prop := messageOrderRow.holds Try.pinned (OpenSpec.ofChange messageOrderWrong)

/- THE SECOND FORM. 'bulk': how many values and letters a reading holds, each counted each time it is reached (what is shared counts as often as it is met; a slice's spare places count too). A statement '..UptoSaid' is the law's where the arguments, and the package variables that the reading takes, are together of bulk at most 1048576: NARROWER than '..Said'. Prove '..Said' where nothing that the law and all that it calls make is longer than what came in: it says more and counts as full. Else prove '..UptoSaid'. A law counts once. -/
mutual
def uptoBulk {H : Type} : DataW H → Nat
  | .lit (.string bytes) => bytes.length + 1
  | .lit _ => 1
  | .nil => 1
  | .ptr d => uptoBulk d + 1
  | .slice elems spare => uptoBulkAll elems + uptoBulkAll spare + 1
  | .agg parts => uptoBulkAll parts + 1
  | .iface _ d => uptoBulk d + 1
  | .map entries => uptoBulkEntries entries + 1
  | .held _ => 1
def uptoBulkAll {H : Type} : List (DataW H) → Nat
  | [] => 0
  | d :: r => uptoBulk d + uptoBulkAll r
def uptoBulkEntries {H : Type} : List (Lit × DataW H) → Nat
  | [] => 0
  | x :: r => uptoBulkEntry x + uptoBulkEntries r
def uptoBulkEntry {H : Type} : Lit × DataW H → Nat
  | (.string bytes, d) => bytes.length + uptoBulk d + 1
  | (_, d) => uptoBulk d + 1
 end
def uptoSmall : (H : Type) → List (DataW H) → Bool := fun _ ds => decide (uptoBulkAll ds ≤ 1048576)
def OpenSpec.upto (s : _root_.Go.ChangeSpec) : _root_.Go.OpenSpec := { _root_.Go.OpenSpec.ofChange s with cond := some uptoSmall }

/-- 'reservoirlaw15.MessageRuns', WHERE WHAT IT READS IS OF BULK AT MOST 1048576: true; the input reads as it did. -/
def messageRunsUptoRow : OpenClaim := { program := "yteodlmfnkjdhhaa", sum := "358475abc4ad525f75cce5058cd8fc7064ebeed8897e4f0ebdd4bb92a256cc89", func := "reservoir/reservoirlaw15.MessageRuns", spec := "messageRuns", apart := false, narrowed := true }
def MessageRunsUptoSaid : Prop := messageRunsUptoRow.holds Try.pinned (OpenSpec.upto messageRunsSpec)

/-- 'reservoirlaw15.MessageTells', WHERE WHAT IT READS IS OF BULK AT MOST 1048576: true; the input reads as it did. -/
def messageTellsUptoRow : OpenClaim := { program := "yteodlmfnkjdhhaa", sum := "358475abc4ad525f75cce5058cd8fc7064ebeed8897e4f0ebdd4bb92a256cc89", func := "reservoir/reservoirlaw15.MessageTells", spec := "messageTells", apart := false, narrowed := true }
def MessageTellsUptoSaid : Prop := messageTellsUptoRow.holds Try.pinned (OpenSpec.upto messageTellsSpec)

/-- 'reservoirlaw15.MessageBack', WHERE WHAT IT READS IS OF BULK AT MOST 1048576: true; the input reads as it did. -/
def messageBackUptoRow : OpenClaim := { program := "yteodlmfnkjdhhaa", sum := "358475abc4ad525f75cce5058cd8fc7064ebeed8897e4f0ebdd4bb92a256cc89", func := "reservoir/reservoirlaw15.MessageBack", spec := "messageBack", apart := false, narrowed := true }
def MessageBackUptoSaid : Prop := messageBackUptoRow.holds Try.pinned (OpenSpec.upto messageBackSpec)

/-- 'reservoirlaw15.MessageHops', WHERE WHAT IT READS IS OF BULK AT MOST 1048576: true; the input reads as it did. -/
def messageHopsUptoRow : OpenClaim := { program := "yteodlmfnkjdhhaa", sum := "358475abc4ad525f75cce5058cd8fc7064ebeed8897e4f0ebdd4bb92a256cc89", func := "reservoir/reservoirlaw15.MessageHops", spec := "messageHops", apart := false, narrowed := true }
def MessageHopsUptoSaid : Prop := messageHopsUptoRow.holds Try.pinned (OpenSpec.upto messageHopsSpec)

/-- 'reservoirlaw15.MessageOne', WHERE WHAT IT READS IS OF BULK AT MOST 1048576: true; the input reads as it did. -/
def messageOneUptoRow : OpenClaim := { program := "yteodlmfnkjdhhaa", sum := "358475abc4ad525f75cce5058cd8fc7064ebeed8897e4f0ebdd4bb92a256cc89", func := "reservoir/reservoirlaw15.MessageOne", spec := "messageOne", apart := false, narrowed := true }
def MessageOneUptoSaid : Prop := messageOneUptoRow.holds Try.pinned (OpenSpec.upto messageOneSpec)

/-- 'reservoirlaw15.MessageOrder', WHERE WHAT IT READS IS OF BULK AT MOST 1048576: true; the input reads as it did. -/
def messageOrderUptoRow : OpenClaim := { program := "yteodlmfnkjdhhaa", sum := "358475abc4ad525f75cce5058cd8fc7064ebeed8897e4f0ebdd4bb92a256cc89", func := "reservoir/reservoirlaw15.MessageOrder", spec := "messageOrder", apart := false, narrowed := true }
def MessageOrderUptoSaid : Prop := messageOrderUptoRow.holds Try.pinned (OpenSpec.upto messageOrderSpec)

end Rows
end Go.Proofs.Yteodlmfnkjdhhaa
