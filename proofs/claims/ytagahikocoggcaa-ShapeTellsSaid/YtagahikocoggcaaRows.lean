/-
  No cell of these rows narrows 'for every input' (looked for: loops, veiled, ifaces, maps, wideKeys, modest, calm, conditions, laid).
  DERIVED. THE GIVEN ROWS OF THIS SEAT. 7 by the template 'for every input the law returns true; each argument reads behind the call as it read before'; 0 by the template 'total and deterministic' (their statements: YtagahikocoggcaaTotals.lean).
  GIVEN WITH THE SEED: the statements are not yours to turn. If you find one false, say at which input.
  Laid BY PROGRAM, IN A SANDBOX (cutbox-rows.mjs): the forced cells as the released guide's own fill.sh prints them over the translation 4fd0642ef98ba50f… (all of the seat's roots in one cut). By AI agents, Wed Nov 11 2026. No macro, syntax, notation, axiom, sorry.
-/
import Derived.Test.YtagahikocoggcaaChecked
import GoSem.Claim
import GoSem.ClaimJoined
import GoSem.ClaimMapViews
import Derived.JoinedTies
import Derived.KernelRfl
namespace Go.Proofs.Ytagahikocoggcaa
/- THE CELL 'sum', in the pinned program and in every row, IS THE sha256 OF THE DUMP (.gsa) THAT YtagahikocoggcaaProg.lean LOADS. Nothing in Lean hashes anything: it is a label: what it is worth is what the hold of that sum in a sandbox is worth. -/
noncomputable def Try.pinned : Pinned := { name := "ytagahikocoggcaa", sum := "4fd0642ef98ba50f10a565c282f411d1b44d67106b018544f8df986e44f11f7d", checked := Try.checked }
namespace Rows
def none {H : Type} : Left H := { results := [], args := [] }

/-- 'reservoirlaw10.ShapeRuns': WHATEVER THE INPUT: true; the input reads as it did. -/
def shapeRunsSpec : ChangeSpec := { name := "shapeRuns", fn := fun _ => fun
  | [] => { results := [.lit (.bool true)], args := [] }
  | _ => none }
def shapeRunsRow : OpenClaim := { program := "ytagahikocoggcaa", sum := "4fd0642ef98ba50f10a565c282f411d1b44d67106b018544f8df986e44f11f7d", func := "reservoir/reservoirlaw10.ShapeRuns", spec := "shapeRuns", apart := false }
def ShapeRunsSaid : Prop := shapeRunsRow.holds Try.pinned (OpenSpec.ofChange shapeRunsSpec)

/-- ITS FALSE NEIGHBOUR: 'it returns false'. Refute it at one input. -/
def shapeRunsWrong : ChangeSpec := { name := "shapeRuns", fn := fun _ => fun
  | [] => { results := [.lit (.bool false)], args := [] }
  | _ => none }
def ShapeRunsWrongFalsely : Prop := shapeRunsRow.holds Try.pinned (OpenSpec.ofChange shapeRunsWrong)

/-- 'reservoirlaw10.ShapeTells': WHATEVER THE INPUT: true; the input reads as it did. -/
def shapeTellsSpec : ChangeSpec := { name := "shapeTells", fn := fun _ => fun
  | [d] => { results := [.lit (.bool true)], args := [d] }
  | _ => none }
def shapeTellsRow : OpenClaim := { program := "ytagahikocoggcaa", sum := "4fd0642ef98ba50f10a565c282f411d1b44d67106b018544f8df986e44f11f7d", func := "reservoir/reservoirlaw10.ShapeTells", spec := "shapeTells", apart := false }
def ShapeTellsSaid : Prop := shapeTellsRow.holds Try.pinned (OpenSpec.ofChange shapeTellsSpec)

/-- ITS FALSE NEIGHBOUR: 'it returns false'. Refute it at one input. -/
def shapeTellsWrong : ChangeSpec := { name := "shapeTells", fn := fun _ => fun
  | [d] => { results := [.lit (.bool false)], args := [d] }
  | _ => none }
def ShapeTellsWrongFalsely : Prop := shapeTellsRow.holds Try.pinned (OpenSpec.ofChange shapeTellsWrong)

/-- 'reservoirlaw10.ShapeOne': WHATEVER THE INPUT: true; the input reads as it did. -/
def shapeOneSpec : ChangeSpec := { name := "shapeOne", fn := fun _ => fun
  | [d] => { results := [.lit (.bool true)], args := [d] }
  | _ => none }
def shapeOneRow : OpenClaim := { program := "ytagahikocoggcaa", sum := "4fd0642ef98ba50f10a565c282f411d1b44d67106b018544f8df986e44f11f7d", func := "reservoir/reservoirlaw10.ShapeOne", spec := "shapeOne", apart := false }
def ShapeOneSaid : Prop := shapeOneRow.holds Try.pinned (OpenSpec.ofChange shapeOneSpec)

/-- ITS FALSE NEIGHBOUR: 'it returns false'. Refute it at one input. -/
def shapeOneWrong : ChangeSpec := { name := "shapeOne", fn := fun _ => fun
  | [d] => { results := [.lit (.bool false)], args := [d] }
  | _ => none }
def ShapeOneWrongFalsely : Prop := shapeOneRow.holds Try.pinned (OpenSpec.ofChange shapeOneWrong)

/-- 'reservoirlaw10.ShapePads': WHATEVER THE INPUT: true; the input reads as it did. -/
def shapePadsSpec : ChangeSpec := { name := "shapePads", fn := fun _ => fun
  | [d1, d2, d3, d4, d5, d6] => { results := [.lit (.bool true)], args := [d1, d2, d3, d4, d5, d6] }
  | _ => none }
def shapePadsRow : OpenClaim := { program := "ytagahikocoggcaa", sum := "4fd0642ef98ba50f10a565c282f411d1b44d67106b018544f8df986e44f11f7d", func := "reservoir/reservoirlaw10.ShapePads", spec := "shapePads", apart := false }
def ShapePadsSaid : Prop := shapePadsRow.holds Try.pinned (OpenSpec.ofChange shapePadsSpec)

/-- ITS FALSE NEIGHBOUR: 'it returns false'. Refute it at one input. -/
def shapePadsWrong : ChangeSpec := { name := "shapePads", fn := fun _ => fun
  | [d1, d2, d3, d4, d5, d6] => { results := [.lit (.bool false)], args := [d1, d2, d3, d4, d5, d6] }
  | _ => none }
def ShapePadsWrongFalsely : Prop := shapePadsRow.holds Try.pinned (OpenSpec.ofChange shapePadsWrong)

/-- 'reservoirlaw10.ShapeUnknown': WHATEVER THE INPUT: true; the input reads as it did. -/
def shapeUnknownSpec : ChangeSpec := { name := "shapeUnknown", fn := fun _ => fun
  | [d1, d2, d3, d4] => { results := [.lit (.bool true)], args := [d1, d2, d3, d4] }
  | _ => none }
def shapeUnknownRow : OpenClaim := { program := "ytagahikocoggcaa", sum := "4fd0642ef98ba50f10a565c282f411d1b44d67106b018544f8df986e44f11f7d", func := "reservoir/reservoirlaw10.ShapeUnknown", spec := "shapeUnknown", apart := false }
def ShapeUnknownSaid : Prop := shapeUnknownRow.holds Try.pinned (OpenSpec.ofChange shapeUnknownSpec)

/-- ITS FALSE NEIGHBOUR: 'it returns false'. Refute it at one input. -/
def shapeUnknownWrong : ChangeSpec := { name := "shapeUnknown", fn := fun _ => fun
  | [d1, d2, d3, d4] => { results := [.lit (.bool false)], args := [d1, d2, d3, d4] }
  | _ => none }
def ShapeUnknownWrongFalsely : Prop := shapeUnknownRow.holds Try.pinned (OpenSpec.ofChange shapeUnknownWrong)

/-- 'reservoirlaw10.ShapeZero': WHATEVER THE INPUT: true; the input reads as it did. -/
def shapeZeroSpec : ChangeSpec := { name := "shapeZero", fn := fun _ => fun
  | [d1, d2, d3, d4] => { results := [.lit (.bool true)], args := [d1, d2, d3, d4] }
  | _ => none }
def shapeZeroRow : OpenClaim := { program := "ytagahikocoggcaa", sum := "4fd0642ef98ba50f10a565c282f411d1b44d67106b018544f8df986e44f11f7d", func := "reservoir/reservoirlaw10.ShapeZero", spec := "shapeZero", apart := false }
def ShapeZeroSaid : Prop := shapeZeroRow.holds Try.pinned (OpenSpec.ofChange shapeZeroSpec)

/-- ITS FALSE NEIGHBOUR: 'it returns false'. Refute it at one input. -/
def shapeZeroWrong : ChangeSpec := { name := "shapeZero", fn := fun _ => fun
  | [d1, d2, d3, d4] => { results := [.lit (.bool false)], args := [d1, d2, d3, d4] }
  | _ => none }
def ShapeZeroWrongFalsely : Prop := shapeZeroRow.holds Try.pinned (OpenSpec.ofChange shapeZeroWrong)

/-- 'reservoirlaw10.ShapeNumbers': WHATEVER THE INPUT: true; the input reads as it did. -/
def shapeNumbersSpec : ChangeSpec := { name := "shapeNumbers", fn := fun _ => fun
  | [d1, d2, d3] => { results := [.lit (.bool true)], args := [d1, d2, d3] }
  | _ => none }
def shapeNumbersRow : OpenClaim := { program := "ytagahikocoggcaa", sum := "4fd0642ef98ba50f10a565c282f411d1b44d67106b018544f8df986e44f11f7d", func := "reservoir/reservoirlaw10.ShapeNumbers", spec := "shapeNumbers", unfollowed := true, recurses := true, apart := false }
def ShapeNumbersSaid : Prop := shapeNumbersRow.holds Try.pinned (OpenSpec.ofChange shapeNumbersSpec)

/-- ITS FALSE NEIGHBOUR: 'it returns false'. Refute it at one input. -/
def shapeNumbersWrong : ChangeSpec := { name := "shapeNumbers", fn := fun _ => fun
  | [d1, d2, d3] => { results := [.lit (.bool false)], args := [d1, d2, d3] }
  | _ => none }
def ShapeNumbersWrongFalsely : Prop := shapeNumbersRow.holds Try.pinned (OpenSpec.ofChange shapeNumbersWrong)

/- THE SECOND FORM. 'bulk': how many values and letters a reading holds, each counted each time it is reached (what is shared counts as often as it is met; a slice's spare places count too). A statement '..UptoSaid' is the law's where the arguments, and the package variables that the reading takes, are together of bulk at most 1048576: NARROWER than '..Said'. Prove '..Said' where nothing that the law and all that it calls make is longer than what came in: it says more and counts as full. Else prove '..UptoSaid'. A law counts once. -/
mutual
def uptoBulk {H : Type} : DataW H → Nat
  | .lit (.string bytes) => bytes.length + 1
  | .lit _ => 1
  | .nil => 1
  | .ptr d => uptoBulk d + 1
  | .slice elems spare => uptoBulkAll elems + uptoBulkAll spare + 1
  | .agg parts => uptoBulkAll parts + 1
  | .iface _ d => uptoBulk d + 1
  | .map entries => uptoBulkEntries entries + 1
  | .held _ => 1
def uptoBulkAll {H : Type} : List (DataW H) → Nat
  | [] => 0
  | d :: r => uptoBulk d + uptoBulkAll r
def uptoBulkEntries {H : Type} : List (Lit × DataW H) → Nat
  | [] => 0
  | x :: r => uptoBulkEntry x + uptoBulkEntries r
def uptoBulkEntry {H : Type} : Lit × DataW H → Nat
  | (.string bytes, d) => bytes.length + uptoBulk d + 1
  | (_, d) => uptoBulk d + 1
 end
def uptoSmall : (H : Type) → List (DataW H) → Bool := fun _ ds => decide (uptoBulkAll ds ≤ 1048576)
def OpenSpec.upto (s : _root_.Go.ChangeSpec) : _root_.Go.OpenSpec := { _root_.Go.OpenSpec.ofChange s with cond := some uptoSmall }

/-- 'reservoirlaw10.ShapeRuns', WHERE WHAT IT READS IS OF BULK AT MOST 1048576: true; the input reads as it did. -/
def shapeRunsUptoRow : OpenClaim := { program := "ytagahikocoggcaa", sum := "4fd0642ef98ba50f10a565c282f411d1b44d67106b018544f8df986e44f11f7d", func := "reservoir/reservoirlaw10.ShapeRuns", spec := "shapeRuns", apart := false, narrowed := true }
def ShapeRunsUptoSaid : Prop := shapeRunsUptoRow.holds Try.pinned (OpenSpec.upto shapeRunsSpec)

/-- 'reservoirlaw10.ShapeTells', WHERE WHAT IT READS IS OF BULK AT MOST 1048576: true; the input reads as it did. -/
def shapeTellsUptoRow : OpenClaim := { program := "ytagahikocoggcaa", sum := "4fd0642ef98ba50f10a565c282f411d1b44d67106b018544f8df986e44f11f7d", func := "reservoir/reservoirlaw10.ShapeTells", spec := "shapeTells", apart := false, narrowed := true }
def ShapeTellsUptoSaid : Prop := shapeTellsUptoRow.holds Try.pinned (OpenSpec.upto shapeTellsSpec)

/-- 'reservoirlaw10.ShapeOne', WHERE WHAT IT READS IS OF BULK AT MOST 1048576: true; the input reads as it did. -/
def shapeOneUptoRow : OpenClaim := { program := "ytagahikocoggcaa", sum := "4fd0642ef98ba50f10a565c282f411d1b44d67106b018544f8df986e44f11f7d", func := "reservoir/reservoirlaw10.ShapeOne", spec := "shapeOne", apart := false, narrowed := true }
def ShapeOneUptoSaid : Prop := shapeOneUptoRow.holds Try.pinned (OpenSpec.upto shapeOneSpec)

/-- 'reservoirlaw10.ShapePads', WHERE WHAT IT READS IS OF BULK AT MOST 1048576: true; the input reads as it did. -/
def shapePadsUptoRow : OpenClaim := { program := "ytagahikocoggcaa", sum := "4fd0642ef98ba50f10a565c282f411d1b44d67106b018544f8df986e44f11f7d", func := "reservoir/reservoirlaw10.ShapePads", spec := "shapePads", apart := false, narrowed := true }
def ShapePadsUptoSaid : Prop := shapePadsUptoRow.holds Try.pinned (OpenSpec.upto shapePadsSpec)

/-- 'reservoirlaw10.ShapeUnknown', WHERE WHAT IT READS IS OF BULK AT MOST 1048576: true; the input reads as it did. -/
def shapeUnknownUptoRow : OpenClaim := { program := "ytagahikocoggcaa", sum := "4fd0642ef98ba50f10a565c282f411d1b44d67106b018544f8df986e44f11f7d", func := "reservoir/reservoirlaw10.ShapeUnknown", spec := "shapeUnknown", apart := false, narrowed := true }
def ShapeUnknownUptoSaid : Prop := shapeUnknownUptoRow.holds Try.pinned (OpenSpec.upto shapeUnknownSpec)

/-- 'reservoirlaw10.ShapeZero', WHERE WHAT IT READS IS OF BULK AT MOST 1048576: true; the input reads as it did. -/
def shapeZeroUptoRow : OpenClaim := { program := "ytagahikocoggcaa", sum := "4fd0642ef98ba50f10a565c282f411d1b44d67106b018544f8df986e44f11f7d", func := "reservoir/reservoirlaw10.ShapeZero", spec := "shapeZero", apart := false, narrowed := true }
def ShapeZeroUptoSaid : Prop := shapeZeroUptoRow.holds Try.pinned (OpenSpec.upto shapeZeroSpec)

/-- 'reservoirlaw10.ShapeNumbers', WHERE WHAT IT READS IS OF BULK AT MOST 1048576: true; the input reads as it did. -/
def shapeNumbersUptoRow : OpenClaim := { program := "ytagahikocoggcaa", sum := "4fd0642ef98ba50f10a565c282f411d1b44d67106b018544f8df986e44f11f7d", func := "reservoir/reservoirlaw10.ShapeNumbers", spec := "shapeNumbers", unfollowed := true, recurses := true, apart := false, narrowed := true }
def ShapeNumbersUptoSaid : Prop := shapeNumbersUptoRow.holds Try.pinned (OpenSpec.upto shapeNumbersSpec)

end Rows
end Go.Proofs.Ytagahikocoggcaa
