/-
  No cell of these rows narrows 'for every input' (looked for: loops, veiled, ifaces, maps, wideKeys, modest, calm, conditions, laid).
  DERIVED. THE GIVEN ROWS OF THIS SEAT. 6 by the template 'for every input the law returns true; each argument reads behind the call as it read before'; 0 by the template 'total and deterministic' (their statements: YtgjhlmelbgikdaaTotals.lean).
  GIVEN WITH THE SEED: the statements are not yours to turn. If you find one false, say at which input.
  Laid BY PROGRAM, IN A SANDBOX (cutbox-rows.mjs): the forced cells as the released guide's own fill.sh prints them over the translation 363947fd3cb5e4ea… (all of the seat's roots in one cut). By AI agents, Wed Nov 11 2026. No macro, syntax, notation, axiom, sorry.
-/
import Derived.Test.YtgjhlmelbgikdaaChecked
import GoSem.Claim
import GoSem.ClaimJoined
import GoSem.ClaimMapViews
import Derived.JoinedTies
import Derived.KernelRfl
namespace Go.Proofs.Ytgjhlmelbgikdaa
/- THE CELL 'sum', in the pinned program and in every row, IS THE sha256 OF THE DUMP (.gsa) THAT YtgjhlmelbgikdaaProg.lean LOADS. Nothing in Lean hashes anything: it is a label: what it is worth is what the hold of that sum in a sandbox is worth. -/
noncomputable def Try.pinned : Pinned := { name := "ytgjhlmelbgikdaa", sum := "363947fd3cb5e4ea5dc90ac61a89104aa1998d75bacb0b0d6767407a17a8111e", checked := Try.checked }
namespace Rows
def none {H : Type} : Left H := { results := [], args := [] }

/-- 'reservoirlaw12.WindowRuns': WHATEVER THE INPUT: true; the input reads as it did. -/
def windowRunsSpec : ChangeSpec := { name := "windowRuns", fn := fun _ => fun
  | [] => { results := [.lit (.bool true)], args := [] }
  | _ => none }
def windowRunsRow : OpenClaim := { program := "ytgjhlmelbgikdaa", sum := "363947fd3cb5e4ea5dc90ac61a89104aa1998d75bacb0b0d6767407a17a8111e", func := "reservoir/reservoirlaw12.WindowRuns", spec := "windowRuns", apart := false }
def WindowRunsSaid : Prop := windowRunsRow.holds Try.pinned (OpenSpec.ofChange windowRunsSpec)

/-- ITS FALSE NEIGHBOUR: 'it returns false'. Refute it at one input. -/
def windowRunsWrong : ChangeSpec := { name := "windowRuns", fn := fun _ => fun
  | [] => { results := [.lit (.bool false)], args := [] }
  | _ => none }
def WindowRunsWrongFalsely : Prop := windowRunsRow.holds Try.pinned (OpenSpec.ofChange windowRunsWrong)

/-- 'reservoirlaw12.WindowPlays': WHATEVER THE INPUT: true; the input reads as it did. -/
def windowPlaysSpec : ChangeSpec := { name := "windowPlays", fn := fun _ => fun
  | [d1, d2] => { results := [.lit (.bool true)], args := [d1, d2] }
  | _ => none }
def windowPlaysRow : OpenClaim := { program := "ytgjhlmelbgikdaa", sum := "363947fd3cb5e4ea5dc90ac61a89104aa1998d75bacb0b0d6767407a17a8111e", func := "reservoir/reservoirlaw12.WindowPlays", spec := "windowPlays", apart := false }
def WindowPlaysSaid : Prop := windowPlaysRow.holds Try.pinned (OpenSpec.ofChange windowPlaysSpec)

/-- ITS FALSE NEIGHBOUR: 'it returns false'. Refute it at one input. -/
def windowPlaysWrong : ChangeSpec := { name := "windowPlays", fn := fun _ => fun
  | [d1, d2] => { results := [.lit (.bool false)], args := [d1, d2] }
  | _ => none }
def WindowPlaysWrongFalsely : Prop := windowPlaysRow.holds Try.pinned (OpenSpec.ofChange windowPlaysWrong)

/-- 'reservoirlaw12.WindowBounded': WHATEVER THE INPUT: true; the input reads as it did. -/
def windowBoundedSpec : ChangeSpec := { name := "windowBounded", fn := fun _ => fun
  | [d1, d2] => { results := [.lit (.bool true)], args := [d1, d2] }
  | _ => none }
def windowBoundedRow : OpenClaim := { program := "ytgjhlmelbgikdaa", sum := "363947fd3cb5e4ea5dc90ac61a89104aa1998d75bacb0b0d6767407a17a8111e", func := "reservoir/reservoirlaw12.WindowBounded", spec := "windowBounded", apart := false }
def WindowBoundedSaid : Prop := windowBoundedRow.holds Try.pinned (OpenSpec.ofChange windowBoundedSpec)

/-- ITS FALSE NEIGHBOUR: 'it returns false'. Refute it at one input. -/
def windowBoundedWrong : ChangeSpec := { name := "windowBounded", fn := fun _ => fun
  | [d1, d2] => { results := [.lit (.bool false)], args := [d1, d2] }
  | _ => none }
def WindowBoundedWrongFalsely : Prop := windowBoundedRow.holds Try.pinned (OpenSpec.ofChange windowBoundedWrong)

/-- 'reservoirlaw12.WindowLeast': WHATEVER THE INPUT: true; the input reads as it did. -/
def windowLeastSpec : ChangeSpec := { name := "windowLeast", fn := fun _ => fun
  | [d1, d2] => { results := [.lit (.bool true)], args := [d1, d2] }
  | _ => none }
def windowLeastRow : OpenClaim := { program := "ytgjhlmelbgikdaa", sum := "363947fd3cb5e4ea5dc90ac61a89104aa1998d75bacb0b0d6767407a17a8111e", func := "reservoir/reservoirlaw12.WindowLeast", spec := "windowLeast", apart := false }
def WindowLeastSaid : Prop := windowLeastRow.holds Try.pinned (OpenSpec.ofChange windowLeastSpec)

/-- ITS FALSE NEIGHBOUR: 'it returns false'. Refute it at one input. -/
def windowLeastWrong : ChangeSpec := { name := "windowLeast", fn := fun _ => fun
  | [d1, d2] => { results := [.lit (.bool false)], args := [d1, d2] }
  | _ => none }
def WindowLeastWrongFalsely : Prop := windowLeastRow.holds Try.pinned (OpenSpec.ofChange windowLeastWrong)

/-- 'reservoirlaw12.WindowUndoes': WHATEVER THE INPUT: true; the input reads as it did. -/
def windowUndoesSpec : ChangeSpec := { name := "windowUndoes", fn := fun _ => fun
  | [d1, d2, d3, d4] => { results := [.lit (.bool true)], args := [d1, d2, d3, d4] }
  | _ => none }
def windowUndoesRow : OpenClaim := { program := "ytgjhlmelbgikdaa", sum := "363947fd3cb5e4ea5dc90ac61a89104aa1998d75bacb0b0d6767407a17a8111e", func := "reservoir/reservoirlaw12.WindowUndoes", spec := "windowUndoes", apart := false }
def WindowUndoesSaid : Prop := windowUndoesRow.holds Try.pinned (OpenSpec.ofChange windowUndoesSpec)

/-- ITS FALSE NEIGHBOUR: 'it returns false'. Refute it at one input. -/
def windowUndoesWrong : ChangeSpec := { name := "windowUndoes", fn := fun _ => fun
  | [d1, d2, d3, d4] => { results := [.lit (.bool false)], args := [d1, d2, d3, d4] }
  | _ => none }
def WindowUndoesWrongFalsely : Prop := windowUndoesRow.holds Try.pinned (OpenSpec.ofChange windowUndoesWrong)

/-- 'reservoirlaw12.WindowRises': WHATEVER THE INPUT: true; the input reads as it did. -/
def windowRisesSpec : ChangeSpec := { name := "windowRises", fn := fun _ => fun
  | [d1, d2, d3] => { results := [.lit (.bool true)], args := [d1, d2, d3] }
  | _ => none }
def windowRisesRow : OpenClaim := { program := "ytgjhlmelbgikdaa", sum := "363947fd3cb5e4ea5dc90ac61a89104aa1998d75bacb0b0d6767407a17a8111e", func := "reservoir/reservoirlaw12.WindowRises", spec := "windowRises", apart := false }
def WindowRisesSaid : Prop := windowRisesRow.holds Try.pinned (OpenSpec.ofChange windowRisesSpec)

/-- ITS FALSE NEIGHBOUR: 'it returns false'. Refute it at one input. -/
def windowRisesWrong : ChangeSpec := { name := "windowRises", fn := fun _ => fun
  | [d1, d2, d3] => { results := [.lit (.bool false)], args := [d1, d2, d3] }
  | _ => none }
def WindowRisesWrongFalsely : Prop := windowRisesRow.holds Try.pinned (OpenSpec.ofChange windowRisesWrong)

/- THE SECOND FORM. 'bulk': how many values and letters a reading holds, each counted each time it is reached (what is shared counts as often as it is met; a slice's spare places count too). A statement '..UptoSaid' is the law's where the arguments, and the package variables that the reading takes, are together of bulk at most 1048576: NARROWER than '..Said'. Prove '..Said' where nothing that the law and all that it calls make is longer than what came in: it says more and counts as full. Else prove '..UptoSaid'. A law counts once. -/
mutual
def uptoBulk {H : Type} : DataW H → Nat
  | .lit (.string bytes) => bytes.length + 1
  | .lit _ => 1
  | .nil => 1
  | .ptr d => uptoBulk d + 1
  | .slice elems spare => uptoBulkAll elems + uptoBulkAll spare + 1
  | .agg parts => uptoBulkAll parts + 1
  | .iface _ d => uptoBulk d + 1
  | .map entries => uptoBulkEntries entries + 1
  | .held _ => 1
def uptoBulkAll {H : Type} : List (DataW H) → Nat
  | [] => 0
  | d :: r => uptoBulk d + uptoBulkAll r
def uptoBulkEntries {H : Type} : List (Lit × DataW H) → Nat
  | [] => 0
  | x :: r => uptoBulkEntry x + uptoBulkEntries r
def uptoBulkEntry {H : Type} : Lit × DataW H → Nat
  | (.string bytes, d) => bytes.length + uptoBulk d + 1
  | (_, d) => uptoBulk d + 1
 end
def uptoSmall : (H : Type) → List (DataW H) → Bool := fun _ ds => decide (uptoBulkAll ds ≤ 1048576)
def OpenSpec.upto (s : _root_.Go.ChangeSpec) : _root_.Go.OpenSpec := { _root_.Go.OpenSpec.ofChange s with cond := some uptoSmall }

/-- 'reservoirlaw12.WindowRuns', WHERE WHAT IT READS IS OF BULK AT MOST 1048576: true; the input reads as it did. -/
def windowRunsUptoRow : OpenClaim := { program := "ytgjhlmelbgikdaa", sum := "363947fd3cb5e4ea5dc90ac61a89104aa1998d75bacb0b0d6767407a17a8111e", func := "reservoir/reservoirlaw12.WindowRuns", spec := "windowRuns", apart := false, narrowed := true }
def WindowRunsUptoSaid : Prop := windowRunsUptoRow.holds Try.pinned (OpenSpec.upto windowRunsSpec)

/-- 'reservoirlaw12.WindowPlays', WHERE WHAT IT READS IS OF BULK AT MOST 1048576: true; the input reads as it did. -/
def windowPlaysUptoRow : OpenClaim := { program := "ytgjhlmelbgikdaa", sum := "363947fd3cb5e4ea5dc90ac61a89104aa1998d75bacb0b0d6767407a17a8111e", func := "reservoir/reservoirlaw12.WindowPlays", spec := "windowPlays", apart := false, narrowed := true }
def WindowPlaysUptoSaid : Prop := windowPlaysUptoRow.holds Try.pinned (OpenSpec.upto windowPlaysSpec)

/-- 'reservoirlaw12.WindowBounded', WHERE WHAT IT READS IS OF BULK AT MOST 1048576: true; the input reads as it did. -/
def windowBoundedUptoRow : OpenClaim := { program := "ytgjhlmelbgikdaa", sum := "363947fd3cb5e4ea5dc90ac61a89104aa1998d75bacb0b0d6767407a17a8111e", func := "reservoir/reservoirlaw12.WindowBounded", spec := "windowBounded", apart := false, narrowed := true }
def WindowBoundedUptoSaid : Prop := windowBoundedUptoRow.holds Try.pinned (OpenSpec.upto windowBoundedSpec)

/-- 'reservoirlaw12.WindowLeast', WHERE WHAT IT READS IS OF BULK AT MOST 1048576: true; the input reads as it did. -/
def windowLeastUptoRow : OpenClaim := { program := "ytgjhlmelbgikdaa", sum := "363947fd3cb5e4ea5dc90ac61a89104aa1998d75bacb0b0d6767407a17a8111e", func := "reservoir/reservoirlaw12.WindowLeast", spec := "windowLeast", apart := false, narrowed := true }
def WindowLeastUptoSaid : Prop := windowLeastUptoRow.holds Try.pinned (OpenSpec.upto windowLeastSpec)

/-- 'reservoirlaw12.WindowUndoes', WHERE WHAT IT READS IS OF BULK AT MOST 1048576: true; the input reads as it did. -/
def windowUndoesUptoRow : OpenClaim := { program := "ytgjhlmelbgikdaa", sum := "363947fd3cb5e4ea5dc90ac61a89104aa1998d75bacb0b0d6767407a17a8111e", func := "reservoir/reservoirlaw12.WindowUndoes", spec := "windowUndoes", apart := false, narrowed := true }
def WindowUndoesUptoSaid : Prop := windowUndoesUptoRow.holds Try.pinned (OpenSpec.upto windowUndoesSpec)

/-- 'reservoirlaw12.WindowRises', WHERE WHAT IT READS IS OF BULK AT MOST 1048576: true; the input reads as it did. -/
def windowRisesUptoRow : OpenClaim := { program := "ytgjhlmelbgikdaa", sum := "363947fd3cb5e4ea5dc90ac61a89104aa1998d75bacb0b0d6767407a17a8111e", func := "reservoir/reservoirlaw12.WindowRises", spec := "windowRises", apart := false, narrowed := true }
def WindowRisesUptoSaid : Prop := windowRisesUptoRow.holds Try.pinned (OpenSpec.upto windowRisesSpec)

end Rows
end Go.Proofs.Ytgjhlmelbgikdaa
