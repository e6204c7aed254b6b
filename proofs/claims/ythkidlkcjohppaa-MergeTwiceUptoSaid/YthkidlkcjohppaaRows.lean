/-
  No cell of these rows narrows 'for every input' (looked for: loops, veiled, ifaces, maps, wideKeys, modest, calm, conditions, laid).
  DERIVED. THE GIVEN ROWS OF THIS SEAT. 6 by the template 'for every input the law returns true; each argument reads behind the call as it read before'; 0 by the template 'total and deterministic' (their statements: YthkidlkcjohppaaTotals.lean).
  GIVEN WITH THE SEED: the statements are not yours to turn. If you find one false, say at which input.
  Laid BY PROGRAM, IN A SANDBOX (cutbox-rows.mjs): the forced cells as the released guide's own fill.sh prints them over the translation 8f6aeddd862dc0a3… (all of the seat's roots in one cut). By AI agents, Wed Nov 11 2026. No macro, syntax, notation, axiom, sorry.
-/
import Derived.Test.YthkidlkcjohppaaChecked
import GoSem.Claim
import GoSem.ClaimJoined
import GoSem.ClaimMapViews
import Derived.JoinedTies
import Derived.KernelRfl
namespace Go.Proofs.Ythkidlkcjohppaa
/- THE CELL 'sum', in the pinned program and in every row, IS THE sha256 OF THE DUMP (.gsa) THAT YthkidlkcjohppaaProg.lean LOADS. Nothing in Lean hashes anything: it is a label: what it is worth is what the hold of that sum in a sandbox is worth. -/
noncomputable def Try.pinned : Pinned := { name := "ythkidlkcjohppaa", sum := "8f6aeddd862dc0a39f1f04da362b4bc15d3ffab9fae989214fda39de8c4f82c1", checked := Try.checked }
namespace Rows
def none {H : Type} : Left H := { results := [], args := [] }

/-- 'reservoirlaw22.MergeRuns': WHATEVER THE INPUT: true; the input reads as it did. -/
def mergeRunsSpec : ChangeSpec := { name := "mergeRuns", fn := fun _ => fun
  | [] => { results := [.lit (.bool true)], args := [] }
  | _ => none }
def mergeRunsRow : OpenClaim := { program := "ythkidlkcjohppaa", sum := "8f6aeddd862dc0a39f1f04da362b4bc15d3ffab9fae989214fda39de8c4f82c1", func := "reservoir/reservoirlaw22.MergeRuns", spec := "mergeRuns", apart := false }
def MergeRunsSaid : Prop := mergeRunsRow.holds Try.pinned (OpenSpec.ofChange mergeRunsSpec)

/-- ITS FALSE NEIGHBOUR: 'it returns false'. Refute it at one input. -/
def mergeRunsWrong : ChangeSpec := { name := "mergeRuns", fn := fun _ => fun
  | [] => { results := [.lit (.bool false)], args := [] }
  | _ => none }
def MergeRunsWrongFalsely : Prop := mergeRunsRow.holds Try.pinned (OpenSpec.ofChange mergeRunsWrong)

/-- 'reservoirlaw22.MergeTells': WHATEVER THE INPUT: true; the input reads as it did. -/
def mergeTellsSpec : ChangeSpec := { name := "mergeTells", fn := fun _ => fun
  | [d1, d2, d3, d4, d5] => { results := [.lit (.bool true)], args := [d1, d2, d3, d4, d5] }
  | _ => none }
def mergeTellsRow : OpenClaim := { program := "ythkidlkcjohppaa", sum := "8f6aeddd862dc0a39f1f04da362b4bc15d3ffab9fae989214fda39de8c4f82c1", func := "reservoir/reservoirlaw22.MergeTells", spec := "mergeTells", apart := false }
def MergeTellsSaid : Prop := mergeTellsRow.holds Try.pinned (OpenSpec.ofChange mergeTellsSpec)

/-- ITS FALSE NEIGHBOUR: 'it returns false'. Refute it at one input. -/
def mergeTellsWrong : ChangeSpec := { name := "mergeTells", fn := fun _ => fun
  | [d1, d2, d3, d4, d5] => { results := [.lit (.bool false)], args := [d1, d2, d3, d4, d5] }
  | _ => none }
def MergeTellsWrongFalsely : Prop := mergeTellsRow.holds Try.pinned (OpenSpec.ofChange mergeTellsWrong)

/-- 'reservoirlaw22.MergeTwice': WHATEVER THE INPUT: true; the input reads as it did. -/
def mergeTwiceSpec : ChangeSpec := { name := "mergeTwice", fn := fun _ => fun
  | [d1, d2, d3, d4] => { results := [.lit (.bool true)], args := [d1, d2, d3, d4] }
  | _ => none }
def mergeTwiceRow : OpenClaim := { program := "ythkidlkcjohppaa", sum := "8f6aeddd862dc0a39f1f04da362b4bc15d3ffab9fae989214fda39de8c4f82c1", func := "reservoir/reservoirlaw22.MergeTwice", spec := "mergeTwice", apart := false }
def MergeTwiceSaid : Prop := mergeTwiceRow.holds Try.pinned (OpenSpec.ofChange mergeTwiceSpec)

/-- ITS FALSE NEIGHBOUR: 'it returns false'. Refute it at one input. -/
def mergeTwiceWrong : ChangeSpec := { name := "mergeTwice", fn := fun _ => fun
  | [d1, d2, d3, d4] => { results := [.lit (.bool false)], args := [d1, d2, d3, d4] }
  | _ => none }
def MergeTwiceWrongFalsely : Prop := mergeTwiceRow.holds Try.pinned (OpenSpec.ofChange mergeTwiceWrong)

/-- 'reservoirlaw22.MergeAsks': WHATEVER THE INPUT: true; the input reads as it did. -/
def mergeAsksSpec : ChangeSpec := { name := "mergeAsks", fn := fun _ => fun
  | [d1, d2, d3, d4] => { results := [.lit (.bool true)], args := [d1, d2, d3, d4] }
  | _ => none }
def mergeAsksRow : OpenClaim := { program := "ythkidlkcjohppaa", sum := "8f6aeddd862dc0a39f1f04da362b4bc15d3ffab9fae989214fda39de8c4f82c1", func := "reservoir/reservoirlaw22.MergeAsks", spec := "mergeAsks", apart := false }
def MergeAsksSaid : Prop := mergeAsksRow.holds Try.pinned (OpenSpec.ofChange mergeAsksSpec)

/-- ITS FALSE NEIGHBOUR: 'it returns false'. Refute it at one input. -/
def mergeAsksWrong : ChangeSpec := { name := "mergeAsks", fn := fun _ => fun
  | [d1, d2, d3, d4] => { results := [.lit (.bool false)], args := [d1, d2, d3, d4] }
  | _ => none }
def MergeAsksWrongFalsely : Prop := mergeAsksRow.holds Try.pinned (OpenSpec.ofChange mergeAsksWrong)

/-- 'reservoirlaw22.MergeSafe': WHATEVER THE INPUT: true; the input reads as it did. -/
def mergeSafeSpec : ChangeSpec := { name := "mergeSafe", fn := fun _ => fun
  | [d1, d2] => { results := [.lit (.bool true)], args := [d1, d2] }
  | _ => none }
def mergeSafeRow : OpenClaim := { program := "ythkidlkcjohppaa", sum := "8f6aeddd862dc0a39f1f04da362b4bc15d3ffab9fae989214fda39de8c4f82c1", func := "reservoir/reservoirlaw22.MergeSafe", spec := "mergeSafe", apart := false }
def MergeSafeSaid : Prop := mergeSafeRow.holds Try.pinned (OpenSpec.ofChange mergeSafeSpec)

/-- ITS FALSE NEIGHBOUR: 'it returns false'. Refute it at one input. -/
def mergeSafeWrong : ChangeSpec := { name := "mergeSafe", fn := fun _ => fun
  | [d1, d2] => { results := [.lit (.bool false)], args := [d1, d2] }
  | _ => none }
def MergeSafeWrongFalsely : Prop := mergeSafeRow.holds Try.pinned (OpenSpec.ofChange mergeSafeWrong)

/-- 'reservoirlaw22.MergeTags': WHATEVER THE INPUT: true; the input reads as it did. -/
def mergeTagsSpec : ChangeSpec := { name := "mergeTags", fn := fun _ => fun
  | [d1, d2, d3, d4] => { results := [.lit (.bool true)], args := [d1, d2, d3, d4] }
  | _ => none }
def mergeTagsRow : OpenClaim := { program := "ythkidlkcjohppaa", sum := "8f6aeddd862dc0a39f1f04da362b4bc15d3ffab9fae989214fda39de8c4f82c1", func := "reservoir/reservoirlaw22.MergeTags", spec := "mergeTags", unfollowed := true, recurses := true, apart := false }
def MergeTagsSaid : Prop := mergeTagsRow.holds Try.pinned (OpenSpec.ofChange mergeTagsSpec)

/-- ITS FALSE NEIGHBOUR: 'it returns false'. Refute it at one input. -/
def mergeTagsWrong : ChangeSpec := { name := "mergeTags", fn := fun _ => fun
  | [d1, d2, d3, d4] => { results := [.lit (.bool false)], args := [d1, d2, d3, d4] }
  | _ => none }
def MergeTagsWrongFalsely : Prop := mergeTagsRow.holds Try.pinned (OpenSpec.ofChange mergeTagsWrong)

/- THE SECOND FORM. 'bulk': how many values and letters a reading holds, each counted each time it is reached (what is shared counts as often as it is met; a slice's spare places count too). A statement '..UptoSaid' is the law's where the arguments, and the package variables that the reading takes, are together of bulk at most 1048576: NARROWER than '..Said'. Prove '..Said' where nothing that the law and all that it calls make is longer than what came in: it says more and counts as full. Else prove '..UptoSaid'. A law counts once. -/
mutual
def uptoBulk {H : Type} : DataW H → Nat
  | .lit (.string bytes) => bytes.length + 1
  | .lit _ => 1
  | .nil => 1
  | .ptr d => uptoBulk d + 1
  | .slice elems spare => uptoBulkAll elems + uptoBulkAll spare + 1
  | .agg parts => uptoBulkAll parts + 1
  | .iface _ d => uptoBulk d + 1
  | .map entries => uptoBulkEntries entries + 1
  | .held _ => 1
def uptoBulkAll {H : Type} : List (DataW H) → Nat
  | [] => 0
  | d :: r => uptoBulk d + uptoBulkAll r
def uptoBulkEntries {H : Type} : List (Lit × DataW H) → Nat
  | [] => 0
  | x :: r => uptoBulkEntry x + uptoBulkEntries r
def uptoBulkEntry {H : Type} : Lit × DataW H → Nat
  | (.string bytes, d) => bytes.length + uptoBulk d + 1
  | (_, d) => uptoBulk d + 1
 end
def uptoSmall : (H : Type) → List (DataW H) → Bool := fun _ ds => decide (uptoBulkAll ds ≤ 1048576)
def OpenSpec.upto (s : _root_.Go.ChangeSpec) : _root_.Go.OpenSpec := { _root_.Go.OpenSpec.ofChange s with cond := some uptoSmall }

/-- 'reservoirlaw22.MergeRuns', WHERE WHAT IT READS IS OF BULK AT MOST 1048576: true; the input reads as it did. -/
def mergeRunsUptoRow : OpenClaim := { program := "ythkidlkcjohppaa", sum := "8f6aeddd862dc0a39f1f04da362b4bc15d3ffab9fae989214fda39de8c4f82c1", func := "reservoir/reservoirlaw22.MergeRuns", spec := "mergeRuns", apart := false, narrowed := true }
def MergeRunsUptoSaid : Prop := mergeRunsUptoRow.holds Try.pinned (OpenSpec.upto mergeRunsSpec)

/-- 'reservoirlaw22.MergeTells', WHERE WHAT IT READS IS OF BULK AT MOST 1048576: true; the input reads as it did. -/
def mergeTellsUptoRow : OpenClaim := { program := "ythkidlkcjohppaa", sum := "8f6aeddd862dc0a39f1f04da362b4bc15d3ffab9fae989214fda39de8c4f82c1", func := "reservoir/reservoirlaw22.MergeTells", spec := "mergeTells", apart := false, narrowed := true }
def MergeTellsUptoSaid : Prop := mergeTellsUptoRow.holds Try.pinned (OpenSpec.upto mergeTellsSpec)

/-- 'reservoirlaw22.MergeTwice', WHERE WHAT IT READS IS OF BULK AT MOST 1048576: true; the input reads as it did. -/
def mergeTwiceUptoRow : OpenClaim := { program := "ythkidlkcjohppaa", sum := "8f6aeddd862dc0a39f1f04da362b4bc15d3ffab9fae989214fda39de8c4f82c1", func := "reservoir/reservoirlaw22.MergeTwice", spec := "mergeTwice", apart := false, narrowed := true }
def MergeTwiceUptoSaid : Prop := mergeTwiceUptoRow.holds Try.pinned (OpenSpec.upto mergeTwiceSpec)

/-- 'reservoirlaw22.MergeAsks', WHERE WHAT IT READS IS OF BULK AT MOST 1048576: true; the input reads as it did. -/
def mergeAsksUptoRow : OpenClaim := { program := "ythkidlkcjohppaa", sum := "8f6aeddd862dc0a39f1f04da362b4bc15d3ffab9fae989214fda39de8c4f82c1", func := "reservoir/reservoirlaw22.MergeAsks", spec := "mergeAsks", apart := false, narrowed := true }
def MergeAsksUptoSaid : Prop := mergeAsksUptoRow.holds Try.pinned (OpenSpec.upto mergeAsksSpec)

/-- 'reservoirlaw22.MergeSafe', WHERE WHAT IT READS IS OF BULK AT MOST 1048576: true; the input reads as it did. -/
def mergeSafeUptoRow : OpenClaim := { program := "ythkidlkcjohppaa", sum := "8f6aeddd862dc0a39f1f04da362b4bc15d3ffab9fae989214fda39de8c4f82c1", func := "reservoir/reservoirlaw22.MergeSafe", spec := "mergeSafe", apart := false, narrowed := true }
def MergeSafeUptoSaid : Prop := mergeSafeUptoRow.holds Try.pinned (OpenSpec.upto mergeSafeSpec)

/-- 'reservoirlaw22.MergeTags', WHERE WHAT IT READS IS OF BULK AT MOST 1048576: true; the input reads as it did. -/
def mergeTagsUptoRow : OpenClaim := { program := "ythkidlkcjohppaa", sum := "8f6aeddd862dc0a39f1f04da362b4bc15d3ffab9fae989214fda39de8c4f82c1", func := "reservoir/reservoirlaw22.MergeTags", spec := "mergeTags", unfollowed := true, recurses := true, apart := false, narrowed := true }
def MergeTagsUptoSaid : Prop := mergeTagsUptoRow.holds Try.pinned (OpenSpec.upto mergeTagsSpec)

end Rows
end Go.Proofs.Ythkidlkcjohppaa
