/-
  No cell of these rows narrows 'for every input' (looked for: loops, veiled, ifaces, maps, wideKeys, modest, calm, conditions, laid).
  DERIVED. THE GIVEN ROWS OF THIS SEAT. 7 by the template 'for every input the law returns true; each argument reads behind the call as it read before'; 0 by the template 'total and deterministic' (their statements: YthhahjkekgbhhaaTotals.lean).
  GIVEN WITH THE SEED: the statements are not yours to turn. If you find one false, say at which input.
  Laid BY PROGRAM, IN A SANDBOX (cutbox-rows.mjs): the forced cells as the released guide's own fill.sh prints them over the translation 20028f83728fc7c0… (all of the seat's roots in one cut). By AI agents, Wed Nov 11 2026. No macro, syntax, notation, axiom, sorry.
-/
import Derived.Test.YthhahjkekgbhhaaChecked
import GoSem.Claim
import GoSem.ClaimJoined
import GoSem.ClaimMapViews
import Derived.JoinedTies
import Derived.KernelRfl
namespace Go.Proofs.Ythhahjkekgbhhaa
/- THE CELL 'sum', in the pinned program and in every row, IS THE sha256 OF THE DUMP (.gsa) THAT YthhahjkekgbhhaaProg.lean LOADS. Nothing in Lean hashes anything: it is a label: what it is worth is what the hold of that sum in a sandbox is worth. -/
noncomputable def Try.pinned : Pinned := { name := "ythhahjkekgbhhaa", sum := "20028f83728fc7c0a2ba49ac2a43c0f5b30c4ecaaa8d9a2e4582291f36b6ded0", checked := Try.checked }
namespace Rows
def none {H : Type} : Left H := { results := [], args := [] }

/-- 'reservoirlaw3.PintRuns': WHATEVER THE INPUT: true; the input reads as it did. -/
def pintRunsSpec : ChangeSpec := { name := "pintRuns", fn := fun _ => fun
  | [] => { results := [.lit (.bool true)], args := [] }
  | _ => none }
def pintRunsRow : OpenClaim := { program := "ythhahjkekgbhhaa", sum := "20028f83728fc7c0a2ba49ac2a43c0f5b30c4ecaaa8d9a2e4582291f36b6ded0", func := "reservoir/reservoirlaw3.PintRuns", spec := "pintRuns", apart := false }
def PintRunsSaid : Prop := pintRunsRow.holds Try.pinned (OpenSpec.ofChange pintRunsSpec)

/-- ITS FALSE NEIGHBOUR: 'it returns false'. Refute it at one input. -/
def pintRunsWrong : ChangeSpec := { name := "pintRuns", fn := fun _ => fun
  | [] => { results := [.lit (.bool false)], args := [] }
  | _ => none }
def PintRunsWrongFalsely : Prop := pintRunsRow.holds Try.pinned (OpenSpec.ofChange pintRunsWrong)

/-- 'reservoirlaw3.PintPuts': WHATEVER THE INPUT: true; the input reads as it did. -/
def pintPutsSpec : ChangeSpec := { name := "pintPuts", fn := fun _ => fun
  | [d1, d2, d3, d4] => { results := [.lit (.bool true)], args := [d1, d2, d3, d4] }
  | _ => none }
def pintPutsRow : OpenClaim := { program := "ythhahjkekgbhhaa", sum := "20028f83728fc7c0a2ba49ac2a43c0f5b30c4ecaaa8d9a2e4582291f36b6ded0", func := "reservoir/reservoirlaw3.PintPuts", spec := "pintPuts", apart := false }
def PintPutsSaid : Prop := pintPutsRow.holds Try.pinned (OpenSpec.ofChange pintPutsSpec)

/-- ITS FALSE NEIGHBOUR: 'it returns false'. Refute it at one input. -/
def pintPutsWrong : ChangeSpec := { name := "pintPuts", fn := fun _ => fun
  | [d1, d2, d3, d4] => { results := [.lit (.bool false)], args := [d1, d2, d3, d4] }
  | _ => none }
def PintPutsWrongFalsely : Prop := pintPutsRow.holds Try.pinned (OpenSpec.ofChange pintPutsWrong)

/-- 'reservoirlaw3.PintGets': WHATEVER THE INPUT: true; the input reads as it did. -/
def pintGetsSpec : ChangeSpec := { name := "pintGets", fn := fun _ => fun
  | [d1, d2, d3] => { results := [.lit (.bool true)], args := [d1, d2, d3] }
  | _ => none }
def pintGetsRow : OpenClaim := { program := "ythhahjkekgbhhaa", sum := "20028f83728fc7c0a2ba49ac2a43c0f5b30c4ecaaa8d9a2e4582291f36b6ded0", func := "reservoir/reservoirlaw3.PintGets", spec := "pintGets", apart := false }
def PintGetsSaid : Prop := pintGetsRow.holds Try.pinned (OpenSpec.ofChange pintGetsSpec)

/-- ITS FALSE NEIGHBOUR: 'it returns false'. Refute it at one input. -/
def pintGetsWrong : ChangeSpec := { name := "pintGets", fn := fun _ => fun
  | [d1, d2, d3] => { results := [.lit (.bool false)], args := [d1, d2, d3] }
  | _ => none }
def PintGetsWrongFalsely : Prop := pintGetsRow.holds Try.pinned (OpenSpec.ofChange pintGetsWrong)

/-- 'reservoirlaw3.PintBack': WHATEVER THE INPUT: true; the input reads as it did. -/
def pintBackSpec : ChangeSpec := { name := "pintBack", fn := fun _ => fun
  | [d1, d2, d3, d4, d5, d6] => { results := [.lit (.bool true)], args := [d1, d2, d3, d4, d5, d6] }
  | _ => none }
def pintBackRow : OpenClaim := { program := "ythhahjkekgbhhaa", sum := "20028f83728fc7c0a2ba49ac2a43c0f5b30c4ecaaa8d9a2e4582291f36b6ded0", func := "reservoir/reservoirlaw3.PintBack", spec := "pintBack", apart := false }
def PintBackSaid : Prop := pintBackRow.holds Try.pinned (OpenSpec.ofChange pintBackSpec)

/-- ITS FALSE NEIGHBOUR: 'it returns false'. Refute it at one input. -/
def pintBackWrong : ChangeSpec := { name := "pintBack", fn := fun _ => fun
  | [d1, d2, d3, d4, d5, d6] => { results := [.lit (.bool false)], args := [d1, d2, d3, d4, d5, d6] }
  | _ => none }
def PintBackWrongFalsely : Prop := pintBackRow.holds Try.pinned (OpenSpec.ofChange pintBackWrong)

/-- 'reservoirlaw3.PintLonger': WHATEVER THE INPUT: true; the input reads as it did. -/
def pintLongerSpec : ChangeSpec := { name := "pintLonger", fn := fun _ => fun
  | [d1, d2, d3] => { results := [.lit (.bool true)], args := [d1, d2, d3] }
  | _ => none }
def pintLongerRow : OpenClaim := { program := "ythhahjkekgbhhaa", sum := "20028f83728fc7c0a2ba49ac2a43c0f5b30c4ecaaa8d9a2e4582291f36b6ded0", func := "reservoir/reservoirlaw3.PintLonger", spec := "pintLonger", apart := false }
def PintLongerSaid : Prop := pintLongerRow.holds Try.pinned (OpenSpec.ofChange pintLongerSpec)

/-- ITS FALSE NEIGHBOUR: 'it returns false'. Refute it at one input. -/
def pintLongerWrong : ChangeSpec := { name := "pintLonger", fn := fun _ => fun
  | [d1, d2, d3] => { results := [.lit (.bool false)], args := [d1, d2, d3] }
  | _ => none }
def PintLongerWrongFalsely : Prop := pintLongerRow.holds Try.pinned (OpenSpec.ofChange pintLongerWrong)

/-- 'reservoirlaw3.PintApart': WHATEVER THE INPUT: true; the input reads as it did. -/
def pintApartSpec : ChangeSpec := { name := "pintApart", fn := fun _ => fun
  | [d1, d2, d3, d4] => { results := [.lit (.bool true)], args := [d1, d2, d3, d4] }
  | _ => none }
def pintApartRow : OpenClaim := { program := "ythhahjkekgbhhaa", sum := "20028f83728fc7c0a2ba49ac2a43c0f5b30c4ecaaa8d9a2e4582291f36b6ded0", func := "reservoir/reservoirlaw3.PintApart", spec := "pintApart", apart := false }
def PintApartSaid : Prop := pintApartRow.holds Try.pinned (OpenSpec.ofChange pintApartSpec)

/-- ITS FALSE NEIGHBOUR: 'it returns false'. Refute it at one input. -/
def pintApartWrong : ChangeSpec := { name := "pintApart", fn := fun _ => fun
  | [d1, d2, d3, d4] => { results := [.lit (.bool false)], args := [d1, d2, d3, d4] }
  | _ => none }
def PintApartWrongFalsely : Prop := pintApartRow.holds Try.pinned (OpenSpec.ofChange pintApartWrong)

/-- 'reservoirlaw3.PintMore': WHATEVER THE INPUT: true; the input reads as it did. -/
def pintMoreSpec : ChangeSpec := { name := "pintMore", fn := fun _ => fun
  | [d1, d2, d3] => { results := [.lit (.bool true)], args := [d1, d2, d3] }
  | _ => none }
def pintMoreRow : OpenClaim := { program := "ythhahjkekgbhhaa", sum := "20028f83728fc7c0a2ba49ac2a43c0f5b30c4ecaaa8d9a2e4582291f36b6ded0", func := "reservoir/reservoirlaw3.PintMore", spec := "pintMore", apart := false }
def PintMoreSaid : Prop := pintMoreRow.holds Try.pinned (OpenSpec.ofChange pintMoreSpec)

/-- ITS FALSE NEIGHBOUR: 'it returns false'. Refute it at one input. -/
def pintMoreWrong : ChangeSpec := { name := "pintMore", fn := fun _ => fun
  | [d1, d2, d3] => { results := [.lit (.bool false)], args := [d1, d2, d3] }
  | _ => none }
def PintMoreWrongFalsely : Prop := pintMoreRow.holds Try.pinned (OpenSpec.ofChange pintMoreWrong)

/- THE SECOND FORM. 'bulk': how many values and letters a reading holds, each counted each time it is reached (what is shared counts as often as it is met; a slice's spare places count too). A statement '..UptoSaid' is the law's where the arguments, and the package variables that the reading takes, are together of bulk at most 1048576: NARROWER than '..Said'. Prove '..Said' where nothing that the law and all that it calls make is longer than what came in: it says more and counts as full. Else prove '..UptoSaid'. A law counts once. -/
mutual
def uptoBulk {H : Type} : DataW H → Nat
  | .lit (.string bytes) => bytes.length + 1
  | .lit _ => 1
  | .nil => 1
  | .ptr d => uptoBulk d + 1
  | .slice elems spare => uptoBulkAll elems + uptoBulkAll spare + 1
  | .agg parts => uptoBulkAll parts + 1
  | .iface _ d => uptoBulk d + 1
  | .map entries => uptoBulkEntries entries + 1
  | .held _ => 1
def uptoBulkAll {H : Type} : List (DataW H) → Nat
  | [] => 0
  | d :: r => uptoBulk d + uptoBulkAll r
def uptoBulkEntries {H : Type} : List (Lit × DataW H) → Nat
  | [] => 0
  | x :: r => uptoBulkEntry x + uptoBulkEntries r
def uptoBulkEntry {H : Type} : Lit × DataW H → Nat
  | (.string bytes, d) => bytes.length + uptoBulk d + 1
  | (_, d) => uptoBulk d + 1
 end
def uptoSmall : (H : Type) → List (DataW H) → Bool := fun _ ds => decide (uptoBulkAll ds ≤ 1048576)
def OpenSpec.upto (s : _root_.Go.ChangeSpec) : _root_.Go.OpenSpec := { _root_.Go.OpenSpec.ofChange s with cond := some uptoSmall }

/-- 'reservoirlaw3.PintRuns', WHERE WHAT IT READS IS OF BULK AT MOST 1048576: true; the input reads as it did. -/
def pintRunsUptoRow : OpenClaim := { program := "ythhahjkekgbhhaa", sum := "20028f83728fc7c0a2ba49ac2a43c0f5b30c4ecaaa8d9a2e4582291f36b6ded0", func := "reservoir/reservoirlaw3.PintRuns", spec := "pintRuns", apart := false, narrowed := true }
def PintRunsUptoSaid : Prop := pintRunsUptoRow.holds Try.pinned (OpenSpec.upto pintRunsSpec)

/-- 'reservoirlaw3.PintPuts', WHERE WHAT IT READS IS OF BULK AT MOST 1048576: true; the input reads as it did. -/
def pintPutsUptoRow : OpenClaim := { program := "ythhahjkekgbhhaa", sum := "20028f83728fc7c0a2ba49ac2a43c0f5b30c4ecaaa8d9a2e4582291f36b6ded0", func := "reservoir/reservoirlaw3.PintPuts", spec := "pintPuts", apart := false, narrowed := true }
def PintPutsUptoSaid : Prop := pintPutsUptoRow.holds Try.pinned (OpenSpec.upto pintPutsSpec)

/-- 'reservoirlaw3.PintGets', WHERE WHAT IT READS IS OF BULK AT MOST 1048576: true; the input reads as it did. -/
def pintGetsUptoRow : OpenClaim := { program := "ythhahjkekgbhhaa", sum := "20028f83728fc7c0a2ba49ac2a43c0f5b30c4ecaaa8d9a2e4582291f36b6ded0", func := "reservoir/reservoirlaw3.PintGets", spec := "pintGets", apart := false, narrowed := true }
def PintGetsUptoSaid : Prop := pintGetsUptoRow.holds Try.pinned (OpenSpec.upto pintGetsSpec)

/-- 'reservoirlaw3.PintBack', WHERE WHAT IT READS IS OF BULK AT MOST 1048576: true; the input reads as it did. -/
def pintBackUptoRow : OpenClaim := { program := "ythhahjkekgbhhaa", sum := "20028f83728fc7c0a2ba49ac2a43c0f5b30c4ecaaa8d9a2e4582291f36b6ded0", func := "reservoir/reservoirlaw3.PintBack", spec := "pintBack", apart := false, narrowed := true }
def PintBackUptoSaid : Prop := pintBackUptoRow.holds Try.pinned (OpenSpec.upto pintBackSpec)

/-- 'reservoirlaw3.PintLonger', WHERE WHAT IT READS IS OF BULK AT MOST 1048576: true; the input reads as it did. -/
def pintLongerUptoRow : OpenClaim := { program := "ythhahjkekgbhhaa", sum := "20028f83728fc7c0a2ba49ac2a43c0f5b30c4ecaaa8d9a2e4582291f36b6ded0", func := "reservoir/reservoirlaw3.PintLonger", spec := "pintLonger", apart := false, narrowed := true }
def PintLongerUptoSaid : Prop := pintLongerUptoRow.holds Try.pinned (OpenSpec.upto pintLongerSpec)

/-- 'reservoirlaw3.PintApart', WHERE WHAT IT READS IS OF BULK AT MOST 1048576: true; the input reads as it did. -/
def pintApartUptoRow : OpenClaim := { program := "ythhahjkekgbhhaa", sum := "20028f83728fc7c0a2ba49ac2a43c0f5b30c4ecaaa8d9a2e4582291f36b6ded0", func := "reservoir/reservoirlaw3.PintApart", spec := "pintApart", apart := false, narrowed := true }
def PintApartUptoSaid : Prop := pintApartUptoRow.holds Try.pinned (OpenSpec.upto pintApartSpec)

/-- 'reservoirlaw3.PintMore', WHERE WHAT IT READS IS OF BULK AT MOST 1048576: true; the input reads as it did. -/
def pintMoreUptoRow : OpenClaim := { program := "ythhahjkekgbhhaa", sum := "20028f83728fc7c0a2ba49ac2a43c0f5b30c4ecaaa8d9a2e4582291f36b6ded0", func := "reservoir/reservoirlaw3.PintMore", spec := "pintMore", apart := false, narrowed := true }
def PintMoreUptoSaid : Prop := pintMoreUptoRow.holds Try.pinned (OpenSpec.upto pintMoreSpec)

end Rows
end Go.Proofs.Ythhahjkekgbhhaa
