/-
  No cell of these rows narrows 'for every input' (looked for: loops, veiled, ifaces, maps, wideKeys, modest, calm, conditions, laid).
  DERIVED. THE GIVEN ROWS OF THIS SEAT. 6 by the template 'for every input the law returns true; each argument reads behind the call as it read before'; 0 by the template 'total and deterministic' (their statements: YtnimempjpkidhaaTotals.lean).
  GIVEN WITH THE SEED: the statements are not yours to turn. If you find one false, say at which input.
  Laid BY PROGRAM, IN A SANDBOX (cutbox-rows.mjs): the forced cells as the released guide's own fill.sh prints them over the translation 453beff9f8ca8d15… (all of the seat's roots in one cut). By AI agents, Wed Nov 11 2026. No macro, syntax, notation, axiom, sorry.
-/
import Derived.Test.YtnimempjpkidhaaChecked
import GoSem.Claim
import GoSem.ClaimJoined
import GoSem.ClaimMapViews
import Derived.JoinedTies
import Derived.KernelRfl
namespace Go.Proofs.Ytnimempjpkidhaa
/- THE CELL 'sum', in the pinned program and in every row, IS THE sha256 OF THE DUMP (.gsa) THAT YtnimempjpkidhaaProg.lean LOADS. Nothing in Lean hashes anything: it is a label: what it is worth is what the hold of that sum in a sandbox is worth. -/
noncomputable def Try.pinned : Pinned := { name := "ytnimempjpkidhaa", sum := "453beff9f8ca8d15a7c49f3b41884683a388721d0801872ae15d7d3a1117c55f", checked := Try.checked }
namespace Rows
def none {H : Type} : Left H := { results := [], args := [] }

/-- 'reservoirlaw17.DayRuns': WHATEVER THE INPUT: true; the input reads as it did. -/
def dayRunsSpec : ChangeSpec := { name := "dayRuns", fn := fun _ => fun
  | [] => { results := [.lit (.bool true)], args := [] }
  | _ => none }
def dayRunsRow : OpenClaim := { program := "ytnimempjpkidhaa", sum := "453beff9f8ca8d15a7c49f3b41884683a388721d0801872ae15d7d3a1117c55f", func := "reservoir/reservoirlaw17.DayRuns", spec := "dayRuns", apart := false }
def DayRunsSaid : Prop := dayRunsRow.holds Try.pinned (OpenSpec.ofChange dayRunsSpec)

/-- ITS FALSE NEIGHBOUR: 'it returns false'. Refute it at one input. -/
def dayRunsWrong : ChangeSpec := { name := "dayRuns", fn := fun _ => fun
  | [] => { results := [.lit (.bool false)], args := [] }
  | _ => none }
def DayRunsWrongFalsely : Prop := dayRunsRow.holds Try.pinned (OpenSpec.ofChange dayRunsWrong)

/-- 'reservoirlaw17.DayTells': WHATEVER THE INPUT: true; the input reads as it did. -/
def dayTellsSpec : ChangeSpec := { name := "dayTells", fn := fun _ => fun
  | [d1, d2] => { results := [.lit (.bool true)], args := [d1, d2] }
  | _ => none }
def dayTellsRow : OpenClaim := { program := "ytnimempjpkidhaa", sum := "453beff9f8ca8d15a7c49f3b41884683a388721d0801872ae15d7d3a1117c55f", func := "reservoir/reservoirlaw17.DayTells", spec := "dayTells", apart := false }
def DayTellsSaid : Prop := dayTellsRow.holds Try.pinned (OpenSpec.ofChange dayTellsSpec)

/-- ITS FALSE NEIGHBOUR: 'it returns false'. Refute it at one input. -/
def dayTellsWrong : ChangeSpec := { name := "dayTells", fn := fun _ => fun
  | [d1, d2] => { results := [.lit (.bool false)], args := [d1, d2] }
  | _ => none }
def DayTellsWrongFalsely : Prop := dayTellsRow.holds Try.pinned (OpenSpec.ofChange dayTellsWrong)

/-- 'reservoirlaw17.DayBack': WHATEVER THE INPUT: true; the input reads as it did. -/
def dayBackSpec : ChangeSpec := { name := "dayBack", fn := fun _ => fun
  | [d1, d2] => { results := [.lit (.bool true)], args := [d1, d2] }
  | _ => none }
def dayBackRow : OpenClaim := { program := "ytnimempjpkidhaa", sum := "453beff9f8ca8d15a7c49f3b41884683a388721d0801872ae15d7d3a1117c55f", func := "reservoir/reservoirlaw17.DayBack", spec := "dayBack", apart := false }
def DayBackSaid : Prop := dayBackRow.holds Try.pinned (OpenSpec.ofChange dayBackSpec)

/-- ITS FALSE NEIGHBOUR: 'it returns false'. Refute it at one input. -/
def dayBackWrong : ChangeSpec := { name := "dayBack", fn := fun _ => fun
  | [d1, d2] => { results := [.lit (.bool false)], args := [d1, d2] }
  | _ => none }
def DayBackWrongFalsely : Prop := dayBackRow.holds Try.pinned (OpenSpec.ofChange dayBackWrong)

/-- 'reservoirlaw17.DayTurned': WHATEVER THE INPUT: true; the input reads as it did. -/
def dayTurnedSpec : ChangeSpec := { name := "dayTurned", fn := fun _ => fun
  | [d1, d2, d3] => { results := [.lit (.bool true)], args := [d1, d2, d3] }
  | _ => none }
def dayTurnedRow : OpenClaim := { program := "ytnimempjpkidhaa", sum := "453beff9f8ca8d15a7c49f3b41884683a388721d0801872ae15d7d3a1117c55f", func := "reservoir/reservoirlaw17.DayTurned", spec := "dayTurned", apart := false }
def DayTurnedSaid : Prop := dayTurnedRow.holds Try.pinned (OpenSpec.ofChange dayTurnedSpec)

/-- ITS FALSE NEIGHBOUR: 'it returns false'. Refute it at one input. -/
def dayTurnedWrong : ChangeSpec := { name := "dayTurned", fn := fun _ => fun
  | [d1, d2, d3] => { results := [.lit (.bool false)], args := [d1, d2, d3] }
  | _ => none }
def DayTurnedWrongFalsely : Prop := dayTurnedRow.holds Try.pinned (OpenSpec.ofChange dayTurnedWrong)

/-- 'reservoirlaw17.DayNext': WHATEVER THE INPUT: true; the input reads as it did. -/
def dayNextSpec : ChangeSpec := { name := "dayNext", fn := fun _ => fun
  | [d] => { results := [.lit (.bool true)], args := [d] }
  | _ => none }
def dayNextRow : OpenClaim := { program := "ytnimempjpkidhaa", sum := "453beff9f8ca8d15a7c49f3b41884683a388721d0801872ae15d7d3a1117c55f", func := "reservoir/reservoirlaw17.DayNext", spec := "dayNext", apart := false }
def DayNextSaid : Prop := dayNextRow.holds Try.pinned (OpenSpec.ofChange dayNextSpec)

/-- ITS FALSE NEIGHBOUR: 'it returns false'. Refute it at one input. -/
def dayNextWrong : ChangeSpec := { name := "dayNext", fn := fun _ => fun
  | [d] => { results := [.lit (.bool false)], args := [d] }
  | _ => none }
def DayNextWrongFalsely : Prop := dayNextRow.holds Try.pinned (OpenSpec.ofChange dayNextWrong)

/-- 'reservoirlaw17.DayRises': WHATEVER THE INPUT: true; the input reads as it did. -/
def dayRisesSpec : ChangeSpec := { name := "dayRises", fn := fun _ => fun
  | [d1, d2] => { results := [.lit (.bool true)], args := [d1, d2] }
  | _ => none }
def dayRisesRow : OpenClaim := { program := "ytnimempjpkidhaa", sum := "453beff9f8ca8d15a7c49f3b41884683a388721d0801872ae15d7d3a1117c55f", func := "reservoir/reservoirlaw17.DayRises", spec := "dayRises", apart := false }
def DayRisesSaid : Prop := dayRisesRow.holds Try.pinned (OpenSpec.ofChange dayRisesSpec)

/-- ITS FALSE NEIGHBOUR: 'it returns false'. Refute it at one input. -/
def dayRisesWrong : ChangeSpec := { name := "dayRises", fn := fun _ => fun
  | [d1, d2] => { results := [.lit (.bool false)], args := [d1, d2] }
  | _ => none }
def DayRisesWrongFalsely : Prop := dayRisesRow.holds Try.pinned (OpenSpec.ofChange dayRisesWrong)

/- THE SECOND FORM. 'bulk': how many values and letters a reading holds, each counted each time it is reached (what is shared counts as often as it is met; a slice's spare places count too). A statement '..UptoSaid' is the law's where the arguments, and the package variables that the reading takes, are together of bulk at most 1048576: NARROWER than '..Said'. Prove '..Said' where nothing that the law and all that it calls make is longer than what came in: it says more and counts as full. Else prove '..UptoSaid'. A law counts once. -/
mutual
def uptoBulk {H : Type} : DataW H → Nat
  | .lit (.string bytes) => bytes.length + 1
  | .lit _ => 1
  | .nil => 1
  | .ptr d => uptoBulk d + 1
  | .slice elems spare => uptoBulkAll elems + uptoBulkAll spare + 1
  | .agg parts => uptoBulkAll parts + 1
  | .iface _ d => uptoBulk d + 1
  | .map entries => uptoBulkEntries entries + 1
  | .held _ => 1
def uptoBulkAll {H : Type} : List (DataW H) → Nat
  | [] => 0
  | d :: r => uptoBulk d + uptoBulkAll r
def uptoBulkEntries {H : Type} : List (Lit × DataW H) → Nat
  | [] => 0
  | x :: r => uptoBulkEntry x + uptoBulkEntries r
def uptoBulkEntry {H : Type} : Lit × DataW H → Nat
  | (.string bytes, d) => bytes.length + uptoBulk d + 1
  | (_, d) => uptoBulk d + 1
 end
def uptoSmall : (H : Type) → List (DataW H) → Bool := fun _ ds => decide (uptoBulkAll ds ≤ 1048576)
def OpenSpec.upto (s : _root_.Go.ChangeSpec) : _root_.Go.OpenSpec := { _root_.Go.OpenSpec.ofChange s with cond := some uptoSmall }

/-- 'reservoirlaw17.DayRuns', WHERE WHAT IT READS IS OF BULK AT MOST 1048576: true; the input reads as it did. -/
def dayRunsUptoRow : OpenClaim := { program := "ytnimempjpkidhaa", sum := "453beff9f8ca8d15a7c49f3b41884683a388721d0801872ae15d7d3a1117c55f", func := "reservoir/reservoirlaw17.DayRuns", spec := "dayRuns", apart := false, narrowed := true }
def DayRunsUptoSaid : Prop := dayRunsUptoRow.holds Try.pinned (OpenSpec.upto dayRunsSpec)

/-- 'reservoirlaw17.DayTells', WHERE WHAT IT READS IS OF BULK AT MOST 1048576: true; the input reads as it did. -/
def dayTellsUptoRow : OpenClaim := { program := "ytnimempjpkidhaa", sum := "453beff9f8ca8d15a7c49f3b41884683a388721d0801872ae15d7d3a1117c55f", func := "reservoir/reservoirlaw17.DayTells", spec := "dayTells", apart := false, narrowed := true }
def DayTellsUptoSaid : Prop := dayTellsUptoRow.holds Try.pinned (OpenSpec.upto dayTellsSpec)

/-- 'reservoirlaw17.DayBack', WHERE WHAT IT READS IS OF BULK AT MOST 1048576: true; the input reads as it did. -/
def dayBackUptoRow : OpenClaim := { program := "ytnimempjpkidhaa", sum := "453beff9f8ca8d15a7c49f3b41884683a388721d0801872ae15d7d3a1117c55f", func := "reservoir/reservoirlaw17.DayBack", spec := "dayBack", apart := false, narrowed := true }
def DayBackUptoSaid : Prop := dayBackUptoRow.holds Try.pinned (OpenSpec.upto dayBackSpec)

/-- 'reservoirlaw17.DayTurned', WHERE WHAT IT READS IS OF BULK AT MOST 1048576: true; the input reads as it did. -/
def dayTurnedUptoRow : OpenClaim := { program := "ytnimempjpkidhaa", sum := "453beff9f8ca8d15a7c49f3b41884683a388721d0801872ae15d7d3a1117c55f", func := "reservoir/reservoirlaw17.DayTurned", spec := "dayTurned", apart := false, narrowed := true }
def DayTurnedUptoSaid : Prop := dayTurnedUptoRow.holds Try.pinned (OpenSpec.upto dayTurnedSpec)

/-- 'reservoirlaw17.DayNext', WHERE WHAT IT READS IS OF BULK AT MOST 1048576: true; the input reads as it did. -/
def dayNextUptoRow : OpenClaim := { program := "ytnimempjpkidhaa", sum := "453beff9f8ca8d15a7c49f3b41884683a388721d0801872ae15d7d3a1117c55f", func := "reservoir/reservoirlaw17.DayNext", spec := "dayNext", apart := false, narrowed := true }
def DayNextUptoSaid : Prop := dayNextUptoRow.holds Try.pinned (OpenSpec.upto dayNextSpec)

/-- 'reservoirlaw17.DayRises', WHERE WHAT IT READS IS OF BULK AT MOST 1048576: true; the input reads as it did. -/
def dayRisesUptoRow : OpenClaim := { program := "ytnimempjpkidhaa", sum := "453beff9f8ca8d15a7c49f3b41884683a388721d0801872ae15d7d3a1117c55f", func := "reservoir/reservoirlaw17.DayRises", spec := "dayRises", apart := false, narrowed := true }
def DayRisesUptoSaid : Prop := dayRisesUptoRow.holds Try.pinned (OpenSpec.upto dayRisesSpec)

end Rows
end Go.Proofs.Ytnimempjpkidhaa
