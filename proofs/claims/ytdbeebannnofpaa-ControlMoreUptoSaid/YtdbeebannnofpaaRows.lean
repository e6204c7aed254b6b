/-
  No cell of these rows narrows 'for every input' (looked for: loops, veiled, ifaces, maps, wideKeys, modest, calm, conditions, laid).
  DERIVED. THE GIVEN ROWS OF THIS SEAT. 5 by the template 'for every input the law returns true; each argument reads behind the call as it read before'; 0 by the template 'total and deterministic' (their statements: YtdbeebannnofpaaTotals.lean).
  GIVEN WITH THE SEED: the statements are not yours to turn. If you find one false, say at which input.
  Laid BY PROGRAM, IN A SANDBOX (cutbox-rows.mjs): the forced cells as the released guide's own fill.sh prints them over the translation 392c0581646e77a6… (all of the seat's roots in one cut). By AI agents, Wed Nov 11 2026. No macro, syntax, notation, axiom, sorry.
-/
import Derived.Test.YtdbeebannnofpaaChecked
import GoSem.Claim
import GoSem.ClaimJoined
import GoSem.ClaimMapViews
import Derived.JoinedTies
import Derived.KernelRfl
namespace Go.Proofs.Ytdbeebannnofpaa
/- THE CELL 'sum', in the pinned program and in every row, IS THE sha256 OF THE DUMP (.gsa) THAT YtdbeebannnofpaaProg.lean LOADS. Nothing in Lean hashes anything: it is a label: what it is worth is what the hold of that sum in a sandbox is worth. -/
noncomputable def Try.pinned : Pinned := { name := "ytdbeebannnofpaa", sum := "392c0581646e77a662b9047e688e7c36072aff223feea088ba5744d510585f2e", checked := Try.checked }
namespace Rows
def none {H : Type} : Left H := { results := [], args := [] }

/-- 'reservoirlaw16.ControlRuns': WHATEVER THE INPUT: true; the input reads as it did. -/
def controlRunsSpec : ChangeSpec := { name := "controlRuns", fn := fun _ => fun
  | [] => { results := [.lit (.bool true)], args := [] }
  | _ => none }
def controlRunsRow : OpenClaim := { program := "ytdbeebannnofpaa", sum := "392c0581646e77a662b9047e688e7c36072aff223feea088ba5744d510585f2e", func := "reservoir/reservoirlaw16.ControlRuns", spec := "controlRuns", apart := false }
def ControlRunsSaid : Prop := controlRunsRow.holds Try.pinned (OpenSpec.ofChange controlRunsSpec)

/-- ITS FALSE NEIGHBOUR: 'it returns false'. Refute it at one input. -/
def controlRunsWrong : ChangeSpec := { name := "controlRuns", fn := fun _ => fun
  | [] => { results := [.lit (.bool false)], args := [] }
  | _ => none }
def ControlRunsWrongFalsely : Prop := controlRunsRow.holds Try.pinned (OpenSpec.ofChange controlRunsWrong)

/-- 'reservoirlaw16.ControlTells': WHATEVER THE INPUT: true; the input reads as it did. -/
def controlTellsSpec : ChangeSpec := { name := "controlTells", fn := fun _ => fun
  | [d1, d2] => { results := [.lit (.bool true)], args := [d1, d2] }
  | _ => none }
def controlTellsRow : OpenClaim := { program := "ytdbeebannnofpaa", sum := "392c0581646e77a662b9047e688e7c36072aff223feea088ba5744d510585f2e", func := "reservoir/reservoirlaw16.ControlTells", spec := "controlTells", apart := false }
def ControlTellsSaid : Prop := controlTellsRow.holds Try.pinned (OpenSpec.ofChange controlTellsSpec)

/-- ITS FALSE NEIGHBOUR: 'it returns false'. Refute it at one input. -/
def controlTellsWrong : ChangeSpec := { name := "controlTells", fn := fun _ => fun
  | [d1, d2] => { results := [.lit (.bool false)], args := [d1, d2] }
  | _ => none }
def ControlTellsWrongFalsely : Prop := controlTellsRow.holds Try.pinned (OpenSpec.ofChange controlTellsWrong)

/-- 'reservoirlaw16.ControlMore': WHATEVER THE INPUT: true; the input reads as it did. -/
def controlMoreSpec : ChangeSpec := { name := "controlMore", fn := fun _ => fun
  | [d1, d2] => { results := [.lit (.bool true)], args := [d1, d2] }
  | _ => none }
def controlMoreRow : OpenClaim := { program := "ytdbeebannnofpaa", sum := "392c0581646e77a662b9047e688e7c36072aff223feea088ba5744d510585f2e", func := "reservoir/reservoirlaw16.ControlMore", spec := "controlMore", apart := false }
def ControlMoreSaid : Prop := controlMoreRow.holds Try.pinned (OpenSpec.ofChange controlMoreSpec)

/-- ITS FALSE NEIGHBOUR: 'it returns false'. Refute it at one input. -/
def controlMoreWrong : ChangeSpec := { name := "controlMore", fn := fun _ => fun
  | [d1, d2] => { results := [.lit (.bool false)], args := [d1, d2] }
  | _ => none }
def ControlMoreWrongFalsely : Prop := controlMoreRow.holds Try.pinned (OpenSpec.ofChange controlMoreWrong)

/-- 'reservoirlaw16.ControlNumbers': WHATEVER THE INPUT: true; the input reads as it did. -/
def controlNumbersSpec : ChangeSpec := { name := "controlNumbers", fn := fun _ => fun
  | [d1, d2, d3, d4] => { results := [.lit (.bool true)], args := [d1, d2, d3, d4] }
  | _ => none }
def controlNumbersRow : OpenClaim := { program := "ytdbeebannnofpaa", sum := "392c0581646e77a662b9047e688e7c36072aff223feea088ba5744d510585f2e", func := "reservoir/reservoirlaw16.ControlNumbers", spec := "controlNumbers", apart := false }
def ControlNumbersSaid : Prop := controlNumbersRow.holds Try.pinned (OpenSpec.ofChange controlNumbersSpec)

/-- ITS FALSE NEIGHBOUR: 'it returns false'. Refute it at one input. -/
def controlNumbersWrong : ChangeSpec := { name := "controlNumbers", fn := fun _ => fun
  | [d1, d2, d3, d4] => { results := [.lit (.bool false)], args := [d1, d2, d3, d4] }
  | _ => none }
def ControlNumbersWrongFalsely : Prop := controlNumbersRow.holds Try.pinned (OpenSpec.ofChange controlNumbersWrong)

/-- 'reservoirlaw16.ControlQuoted': WHATEVER THE INPUT: true; the input reads as it did. -/
def controlQuotedSpec : ChangeSpec := { name := "controlQuoted", fn := fun _ => fun
  | [d1, d2] => { results := [.lit (.bool true)], args := [d1, d2] }
  | _ => none }
def controlQuotedRow : OpenClaim := { program := "ytdbeebannnofpaa", sum := "392c0581646e77a662b9047e688e7c36072aff223feea088ba5744d510585f2e", func := "reservoir/reservoirlaw16.ControlQuoted", spec := "controlQuoted", apart := false }
def ControlQuotedSaid : Prop := controlQuotedRow.holds Try.pinned (OpenSpec.ofChange controlQuotedSpec)

/-- ITS FALSE NEIGHBOUR: 'it returns false'. Refute it at one input. -/
def controlQuotedWrong : ChangeSpec := { name := "controlQuoted", fn := fun _ => fun
  | [d1, d2] => { results := [.lit (.bool false)], args := [d1, d2] }
  | _ => none }
def ControlQuotedWrongFalsely : Prop := controlQuotedRow.holds Try.pinned (OpenSpec.ofChange controlQuotedWrong)

/- THE SECOND FORM. 'bulk': how many values and letters a reading holds, each counted each time it is reached (what is shared counts as often as it is met; a slice's spare places count too). A statement '..UptoSaid' is the law's where the arguments, and the package variables that the reading takes, are together of bulk at most 1048576: NARROWER than '..Said'. Prove '..Said' where nothing that the law and all that it calls make is longer than what came in: it says more and counts as full. Else prove '..UptoSaid'. A law counts once. -/
mutual
def uptoBulk {H : Type} : DataW H → Nat
  | .lit (.string bytes) => bytes.length + 1
  | .lit _ => 1
  | .nil => 1
  | .ptr d => uptoBulk d + 1
  | .slice elems spare => uptoBulkAll elems + uptoBulkAll spare + 1
  | .agg parts => uptoBulkAll parts + 1
  | .iface _ d => uptoBulk d + 1
  | .map entries => uptoBulkEntries entries + 1
  | .held _ => 1
def uptoBulkAll {H : Type} : List (DataW H) → Nat
  | [] => 0
  | d :: r => uptoBulk d + uptoBulkAll r
def uptoBulkEntries {H : Type} : List (Lit × DataW H) → Nat
  | [] => 0
  | x :: r => uptoBulkEntry x + uptoBulkEntries r
def uptoBulkEntry {H : Type} : Lit × DataW H → Nat
  | (.string bytes, d) => bytes.length + uptoBulk d + 1
  | (_, d) => uptoBulk d + 1
 end
def uptoSmall : (H : Type) → List (DataW H) → Bool := fun _ ds => decide (uptoBulkAll ds ≤ 1048576)
def OpenSpec.upto (s : _root_.Go.ChangeSpec) : _root_.Go.OpenSpec := { _root_.Go.OpenSpec.ofChange s with cond := some uptoSmall }

/-- 'reservoirlaw16.ControlRuns', WHERE WHAT IT READS IS OF BULK AT MOST 1048576: true; the input reads as it did. -/
def controlRunsUptoRow : OpenClaim := { program := "ytdbeebannnofpaa", sum := "392c0581646e77a662b9047e688e7c36072aff223feea088ba5744d510585f2e", func := "reservoir/reservoirlaw16.ControlRuns", spec := "controlRuns", apart := false, narrowed := true }
def ControlRunsUptoSaid : Prop := controlRunsUptoRow.holds Try.pinned (OpenSpec.upto controlRunsSpec)

/-- 'reservoirlaw16.ControlTells', WHERE WHAT IT READS IS OF BULK AT MOST 1048576: true; the input reads as it did. -/
def controlTellsUptoRow : OpenClaim := { program := "ytdbeebannnofpaa", sum := "392c0581646e77a662b9047e688e7c36072aff223feea088ba5744d510585f2e", func := "reservoir/reservoirlaw16.ControlTells", spec := "controlTells", apart := false, narrowed := true }
def ControlTellsUptoSaid : Prop := controlTellsUptoRow.holds Try.pinned (OpenSpec.upto controlTellsSpec)

/-- 'reservoirlaw16.ControlMore', WHERE WHAT IT READS IS OF BULK AT MOST 1048576: true; the input reads as it did. -/
def controlMoreUptoRow : OpenClaim := { program := "ytdbeebannnofpaa", sum := "392c0581646e77a662b9047e688e7c36072aff223feea088ba5744d510585f2e", func := "reservoir/reservoirlaw16.ControlMore", spec := "controlMore", apart := false, narrowed := true }
def ControlMoreUptoSaid : Prop := controlMoreUptoRow.holds Try.pinned (OpenSpec.upto controlMoreSpec)

/-- 'reservoirlaw16.ControlNumbers', WHERE WHAT IT READS IS OF BULK AT MOST 1048576: true; the input reads as it did. -/
def controlNumbersUptoRow : OpenClaim := { program := "ytdbeebannnofpaa", sum := "392c0581646e77a662b9047e688e7c36072aff223feea088ba5744d510585f2e", func := "reservoir/reservoirlaw16.ControlNumbers", spec := "controlNumbers", apart := false, narrowed := true }
def ControlNumbersUptoSaid : Prop := controlNumbersUptoRow.holds Try.pinned (OpenSpec.upto controlNumbersSpec)

/-- 'reservoirlaw16.ControlQuoted', WHERE WHAT IT READS IS OF BULK AT MOST 1048576: true; the input reads as it did. -/
def controlQuotedUptoRow : OpenClaim := { program := "ytdbeebannnofpaa", sum := "392c0581646e77a662b9047e688e7c36072aff223feea088ba5744d510585f2e", func := "reservoir/reservoirlaw16.ControlQuoted", spec := "controlQuoted", apart := false, narrowed := true }
def ControlQuotedUptoSaid : Prop := controlQuotedUptoRow.holds Try.pinned (OpenSpec.upto controlQuotedSpec)

end Rows
end Go.Proofs.Ytdbeebannnofpaa
