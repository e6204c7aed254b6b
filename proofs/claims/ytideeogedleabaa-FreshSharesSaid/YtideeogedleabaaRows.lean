/-
  No cell of these rows narrows 'for every input' (looked for: loops, veiled, ifaces, maps, wideKeys, modest, calm, conditions, laid).
  DERIVED. THE GIVEN ROWS OF THIS SEAT. 6 by the template 'for every input the law returns true; each argument reads behind the call as it read before'; 0 by the template 'total and deterministic' (their statements: YtideeogedleabaaTotals.lean).
  GIVEN WITH THE SEED: the statements are not yours to turn. If you find one false, say at which input.
  Laid BY PROGRAM, IN A SANDBOX (cutbox-rows.mjs): the forced cells as the released guide's own fill.sh prints them over the translation c30899e4e2ede994… (all of the seat's roots in one cut). By AI agents, Wed Nov 11 2026. No macro, syntax, notation, axiom, sorry.
-/
import Derived.Test.YtideeogedleabaaChecked
import GoSem.Claim
import GoSem.ClaimJoined
import GoSem.ClaimMapViews
import Derived.JoinedTies
import Derived.KernelRfl
namespace Go.Proofs.Ytideeogedleabaa
/- THE CELL 'sum', in the pinned program and in every row, IS THE sha256 OF THE DUMP (.gsa) THAT YtideeogedleabaaProg.lean LOADS. Nothing in Lean hashes anything: it is a label: what it is worth is what the hold of that sum in a sandbox is worth. -/
noncomputable def Try.pinned : Pinned := { name := "ytideeogedleabaa", sum := "c30899e4e2ede9941f2e452f800687f35965e95dcebeb11ef5bbc972dd330a6c", checked := Try.checked }
namespace Rows
def none {H : Type} : Left H := { results := [], args := [] }

/-- 'reservoirlaw19.FreshRuns': WHATEVER THE INPUT: true; the input reads as it did. -/
def freshRunsSpec : ChangeSpec := { name := "freshRuns", fn := fun _ => fun
  | [] => { results := [.lit (.bool true)], args := [] }
  | _ => none }
def freshRunsRow : OpenClaim := { program := "ytideeogedleabaa", sum := "c30899e4e2ede9941f2e452f800687f35965e95dcebeb11ef5bbc972dd330a6c", func := "reservoir/reservoirlaw19.FreshRuns", spec := "freshRuns", apart := false }
def FreshRunsSaid : Prop := freshRunsRow.holds Try.pinned (OpenSpec.ofChange freshRunsSpec)

/-- ITS FALSE NEIGHBOUR: 'it returns false'. Refute it at one input. -/
def freshRunsWrong : ChangeSpec := { name := "freshRuns", fn := fun _ => fun
  | [] => { results := [.lit (.bool false)], args := [] }
  | _ => none }
def FreshRunsWrongFalsely : Prop := freshRunsRow.holds Try.pinned (OpenSpec.ofChange freshRunsWrong)

/-- 'reservoirlaw19.FreshTells': WHATEVER THE INPUT: true; the input reads as it did. -/
def freshTellsSpec : ChangeSpec := { name := "freshTells", fn := fun _ => fun
  | [d1, d2, d3] => { results := [.lit (.bool true)], args := [d1, d2, d3] }
  | _ => none }
def freshTellsRow : OpenClaim := { program := "ytideeogedleabaa", sum := "c30899e4e2ede9941f2e452f800687f35965e95dcebeb11ef5bbc972dd330a6c", func := "reservoir/reservoirlaw19.FreshTells", spec := "freshTells", apart := false }
def FreshTellsSaid : Prop := freshTellsRow.holds Try.pinned (OpenSpec.ofChange freshTellsSpec)

/-- ITS FALSE NEIGHBOUR: 'it returns false'. Refute it at one input. -/
def freshTellsWrong : ChangeSpec := { name := "freshTells", fn := fun _ => fun
  | [d1, d2, d3] => { results := [.lit (.bool false)], args := [d1, d2, d3] }
  | _ => none }
def FreshTellsWrongFalsely : Prop := freshTellsRow.holds Try.pinned (OpenSpec.ofChange freshTellsWrong)

/-- 'reservoirlaw19.FreshGrows': WHATEVER THE INPUT: true; the input reads as it did. -/
def freshGrowsSpec : ChangeSpec := { name := "freshGrows", fn := fun _ => fun
  | [d1, d2, d3, d4] => { results := [.lit (.bool true)], args := [d1, d2, d3, d4] }
  | _ => none }
def freshGrowsRow : OpenClaim := { program := "ytideeogedleabaa", sum := "c30899e4e2ede9941f2e452f800687f35965e95dcebeb11ef5bbc972dd330a6c", func := "reservoir/reservoirlaw19.FreshGrows", spec := "freshGrows", apart := false }
def FreshGrowsSaid : Prop := freshGrowsRow.holds Try.pinned (OpenSpec.ofChange freshGrowsSpec)

/-- ITS FALSE NEIGHBOUR: 'it returns false'. Refute it at one input. -/
def freshGrowsWrong : ChangeSpec := { name := "freshGrows", fn := fun _ => fun
  | [d1, d2, d3, d4] => { results := [.lit (.bool false)], args := [d1, d2, d3, d4] }
  | _ => none }
def FreshGrowsWrongFalsely : Prop := freshGrowsRow.holds Try.pinned (OpenSpec.ofChange freshGrowsWrong)

/-- 'reservoirlaw19.FreshShares': WHATEVER THE INPUT: true; the input reads as it did. -/
def freshSharesSpec : ChangeSpec := { name := "freshShares", fn := fun _ => fun
  | [d1, d2, d3] => { results := [.lit (.bool true)], args := [d1, d2, d3] }
  | _ => none }
def freshSharesRow : OpenClaim := { program := "ytideeogedleabaa", sum := "c30899e4e2ede9941f2e452f800687f35965e95dcebeb11ef5bbc972dd330a6c", func := "reservoir/reservoirlaw19.FreshShares", spec := "freshShares", apart := false }
def FreshSharesSaid : Prop := freshSharesRow.holds Try.pinned (OpenSpec.ofChange freshSharesSpec)

/-- ITS FALSE NEIGHBOUR: 'it returns false'. Refute it at one input. -/
def freshSharesWrong : ChangeSpec := { name := "freshShares", fn := fun _ => fun
  | [d1, d2, d3] => { results := [.lit (.bool false)], args := [d1, d2, d3] }
  | _ => none }
def FreshSharesWrongFalsely : Prop := freshSharesRow.holds Try.pinned (OpenSpec.ofChange freshSharesWrong)

/-- 'reservoirlaw19.FreshEnds': WHATEVER THE INPUT: true; the input reads as it did. -/
def freshEndsSpec : ChangeSpec := { name := "freshEnds", fn := fun _ => fun
  | [d1, d2, d3] => { results := [.lit (.bool true)], args := [d1, d2, d3] }
  | _ => none }
def freshEndsRow : OpenClaim := { program := "ytideeogedleabaa", sum := "c30899e4e2ede9941f2e452f800687f35965e95dcebeb11ef5bbc972dd330a6c", func := "reservoir/reservoirlaw19.FreshEnds", spec := "freshEnds", apart := false }
def FreshEndsSaid : Prop := freshEndsRow.holds Try.pinned (OpenSpec.ofChange freshEndsSpec)

/-- ITS FALSE NEIGHBOUR: 'it returns false'. Refute it at one input. -/
def freshEndsWrong : ChangeSpec := { name := "freshEnds", fn := fun _ => fun
  | [d1, d2, d3] => { results := [.lit (.bool false)], args := [d1, d2, d3] }
  | _ => none }
def FreshEndsWrongFalsely : Prop := freshEndsRow.holds Try.pinned (OpenSpec.ofChange freshEndsWrong)

/-- 'reservoirlaw19.FreshFirst': WHATEVER THE INPUT: true; the input reads as it did. -/
def freshFirstSpec : ChangeSpec := { name := "freshFirst", fn := fun _ => fun
  | [d1, d2, d3, d4, d5] => { results := [.lit (.bool true)], args := [d1, d2, d3, d4, d5] }
  | _ => none }
def freshFirstRow : OpenClaim := { program := "ytideeogedleabaa", sum := "c30899e4e2ede9941f2e452f800687f35965e95dcebeb11ef5bbc972dd330a6c", func := "reservoir/reservoirlaw19.FreshFirst", spec := "freshFirst", apart := false }
def FreshFirstSaid : Prop := freshFirstRow.holds Try.pinned (OpenSpec.ofChange freshFirstSpec)

/-- ITS FALSE NEIGHBOUR: 'it returns false'. Refute it at one input. -/
def freshFirstWrong : ChangeSpec := { name := "freshFirst", fn := fun _ => fun
  | [d1, d2, d3, d4, d5] => { results := [.lit (.bool false)], args := [d1, d2, d3, d4, d5] }
  | _ => none }
def FreshFirstWrongFalsely : Prop := freshFirstRow.holds Try.pinned (OpenSpec.ofChange freshFirstWrong)

/- THE SECOND FORM. 'bulk': how many values and letters a reading holds, each counted each time it is reached (what is shared counts as often as it is met; a slice's spare places count too). A statement '..UptoSaid' is the law's where the arguments, and the package variables that the reading takes, are together of bulk at most 1048576: NARROWER than '..Said'. Prove '..Said' where nothing that the law and all that it calls make is longer than what came in: it says more and counts as full. Else prove '..UptoSaid'. A law counts once. -/
mutual
def uptoBulk {H : Type} : DataW H → Nat
  | .lit (.string bytes) => bytes.length + 1
  | .lit _ => 1
  | .nil => 1
  | .ptr d => uptoBulk d + 1
  | .slice elems spare => uptoBulkAll elems + uptoBulkAll spare + 1
  | .agg parts => uptoBulkAll parts + 1
  | .iface _ d => uptoBulk d + 1
  | .map entries => uptoBulkEntries entries + 1
  | .held _ => 1
def uptoBulkAll {H : Type} : List (DataW H) → Nat
  | [] => 0
  | d :: r => uptoBulk d + uptoBulkAll r
def uptoBulkEntries {H : Type} : List (Lit × DataW H) → Nat
  | [] => 0
  | x :: r => uptoBulkEntry x + uptoBulkEntries r
def uptoBulkEntry {H : Type} : Lit × DataW H → Nat
  | (.string bytes, d) => bytes.length + uptoBulk d + 1
  | (_, d) => uptoBulk d + 1
 end
def uptoSmall : (H : Type) → List (DataW H) → Bool := fun _ ds => decide (uptoBulkAll ds ≤ 1048576)
def OpenSpec.upto (s : _root_.Go.ChangeSpec) : _root_.Go.OpenSpec := { _root_.Go.OpenSpec.ofChange s with cond := some uptoSmall }

/-- 'reservoirlaw19.FreshRuns', WHERE WHAT IT READS IS OF BULK AT MOST 1048576: true; the input reads as it did. -/
def freshRunsUptoRow : OpenClaim := { program := "ytideeogedleabaa", sum := "c30899e4e2ede9941f2e452f800687f35965e95dcebeb11ef5bbc972dd330a6c", func := "reservoir/reservoirlaw19.FreshRuns", spec := "freshRuns", apart := false, narrowed := true }
def FreshRunsUptoSaid : Prop := freshRunsUptoRow.holds Try.pinned (OpenSpec.upto freshRunsSpec)

/-- 'reservoirlaw19.FreshTells', WHERE WHAT IT READS IS OF BULK AT MOST 1048576: true; the input reads as it did. -/
def freshTellsUptoRow : OpenClaim := { program := "ytideeogedleabaa", sum := "c30899e4e2ede9941f2e452f800687f35965e95dcebeb11ef5bbc972dd330a6c", func := "reservoir/reservoirlaw19.FreshTells", spec := "freshTells", apart := false, narrowed := true }
def FreshTellsUptoSaid : Prop := freshTellsUptoRow.holds Try.pinned (OpenSpec.upto freshTellsSpec)

/-- 'reservoirlaw19.FreshGrows', WHERE WHAT IT READS IS OF BULK AT MOST 1048576: true; the input reads as it did. -/
def freshGrowsUptoRow : OpenClaim := { program := "ytideeogedleabaa", sum := "c30899e4e2ede9941f2e452f800687f35965e95dcebeb11ef5bbc972dd330a6c", func := "reservoir/reservoirlaw19.FreshGrows", spec := "freshGrows", apart := false, narrowed := true }
def FreshGrowsUptoSaid : Prop := freshGrowsUptoRow.holds Try.pinned (OpenSpec.upto freshGrowsSpec)

/-- 'reservoirlaw19.FreshShares', WHERE WHAT IT READS IS OF BULK AT MOST 1048576: true; the input reads as it did. -/
def freshSharesUptoRow : OpenClaim := { program := "ytideeogedleabaa", sum := "c30899e4e2ede9941f2e452f800687f35965e95dcebeb11ef5bbc972dd330a6c", func := "reservoir/reservoirlaw19.FreshShares", spec := "freshShares", apart := false, narrowed := true }
def FreshSharesUptoSaid : Prop := freshSharesUptoRow.holds Try.pinned (OpenSpec.upto freshSharesSpec)

/-- 'reservoirlaw19.FreshEnds', WHERE WHAT IT READS IS OF BULK AT MOST 1048576: true; the input reads as it did. -/
def freshEndsUptoRow : OpenClaim := { program := "ytideeogedleabaa", sum := "c30899e4e2ede9941f2e452f800687f35965e95dcebeb11ef5bbc972dd330a6c", func := "reservoir/reservoirlaw19.FreshEnds", spec := "freshEnds", apart := false, narrowed := true }
def FreshEndsUptoSaid : Prop := freshEndsUptoRow.holds Try.pinned (OpenSpec.upto freshEndsSpec)

/-- 'reservoirlaw19.FreshFirst', WHERE WHAT IT READS IS OF BULK AT MOST 1048576: true; the input reads as it did. -/
def freshFirstUptoRow : OpenClaim := { program := "ytideeogedleabaa", sum := "c30899e4e2ede9941f2e452f800687f35965e95dcebeb11ef5bbc972dd330a6c", func := "reservoir/reservoirlaw19.FreshFirst", spec := "freshFirst", apart := false, narrowed := true }
def FreshFirstUptoSaid : Prop := freshFirstUptoRow.holds Try.pinned (OpenSpec.upto freshFirstSpec)

end Rows
end Go.Proofs.Ytideeogedleabaa
