/-
  No cell of these rows narrows 'for every input' (looked for: loops, veiled, ifaces, maps, wideKeys, modest, calm, conditions, laid).
  DERIVED. THE GIVEN ROWS OF THIS SEAT. 8 by the template 'for every input the law returns true; each argument reads behind the call as it read before'; 0 by the template 'total and deterministic' (their statements: YtbpeollodpjicaaTotals.lean).
  GIVEN WITH THE SEED: the statements are not yours to turn. If you find one false, say at which input.
  Laid BY PROGRAM, IN A SANDBOX (cutbox-rows.mjs): the forced cells as the released guide's own fill.sh prints them over the translation cba3fbbd0ddf68e8… (all of the seat's roots in one cut). By AI agents, Wed Nov 11 2026. No macro, syntax, notation, axiom, sorry.
-/
import Derived.Test.YtbpeollodpjicaaChecked
import GoSem.Claim
import GoSem.ClaimJoined
import GoSem.ClaimMapViews
import Derived.JoinedTies
import Derived.KernelRfl
namespace Go.Proofs.Ytbpeollodpjicaa
/- THE CELL 'sum', in the pinned program and in every row, IS THE sha256 OF THE DUMP (.gsa) THAT YtbpeollodpjicaaProg.lean LOADS. Nothing in Lean hashes anything: it is a label: what it is worth is what the hold of that sum in a sandbox is worth. -/
noncomputable def Try.pinned : Pinned := { name := "ytbpeollodpjicaa", sum := "cba3fbbd0ddf68e8be36f107b7eaf83cbc01740066082c5b373be7a5b0ba90aa", checked := Try.checked }
namespace Rows
def none {H : Type} : Left H := { results := [], args := [] }

/-- 'reservoirlaw4.HuffRuns': WHATEVER THE INPUT: true; the input reads as it did. -/
def huffRunsSpec : ChangeSpec := { name := "huffRuns", fn := fun _ => fun
  | [] => { results := [.lit (.bool true)], args := [] }
  | _ => none }
def huffRunsRow : OpenClaim := { program := "ytbpeollodpjicaa", sum := "cba3fbbd0ddf68e8be36f107b7eaf83cbc01740066082c5b373be7a5b0ba90aa", func := "reservoir/reservoirlaw4.HuffRuns", spec := "huffRuns", apart := false }
def HuffRunsSaid : Prop := huffRunsRow.holds Try.pinned (OpenSpec.ofChange huffRunsSpec)

/-- ITS FALSE NEIGHBOUR: 'it returns false'. Refute it at one input. -/
def huffRunsWrong : ChangeSpec := { name := "huffRuns", fn := fun _ => fun
  | [] => { results := [.lit (.bool false)], args := [] }
  | _ => none }
def HuffRunsWrongFalsely : Prop := huffRunsRow.holds Try.pinned (OpenSpec.ofChange huffRunsWrong)

/-- 'reservoirlaw4.HuffTells': WHATEVER THE INPUT: true; the input reads as it did. -/
def huffTellsSpec : ChangeSpec := { name := "huffTells", fn := fun _ => fun
  | [d1, d2] => { results := [.lit (.bool true)], args := [d1, d2] }
  | _ => none }
def huffTellsRow : OpenClaim := { program := "ytbpeollodpjicaa", sum := "cba3fbbd0ddf68e8be36f107b7eaf83cbc01740066082c5b373be7a5b0ba90aa", func := "reservoir/reservoirlaw4.HuffTells", spec := "huffTells", apart := false }
def HuffTellsSaid : Prop := huffTellsRow.holds Try.pinned (OpenSpec.ofChange huffTellsSpec)

/-- ITS FALSE NEIGHBOUR: 'it returns false'. Refute it at one input. -/
def huffTellsWrong : ChangeSpec := { name := "huffTells", fn := fun _ => fun
  | [d1, d2] => { results := [.lit (.bool false)], args := [d1, d2] }
  | _ => none }
def HuffTellsWrongFalsely : Prop := huffTellsRow.holds Try.pinned (OpenSpec.ofChange huffTellsWrong)

/-- 'reservoirlaw4.HuffReads': WHATEVER THE INPUT: true; the input reads as it did. -/
def huffReadsSpec : ChangeSpec := { name := "huffReads", fn := fun _ => fun
  | [d] => { results := [.lit (.bool true)], args := [d] }
  | _ => none }
def huffReadsRow : OpenClaim := { program := "ytbpeollodpjicaa", sum := "cba3fbbd0ddf68e8be36f107b7eaf83cbc01740066082c5b373be7a5b0ba90aa", func := "reservoir/reservoirlaw4.HuffReads", spec := "huffReads", apart := false }
def HuffReadsSaid : Prop := huffReadsRow.holds Try.pinned (OpenSpec.ofChange huffReadsSpec)

/-- ITS FALSE NEIGHBOUR: 'it returns false'. Refute it at one input. -/
def huffReadsWrong : ChangeSpec := { name := "huffReads", fn := fun _ => fun
  | [d] => { results := [.lit (.bool false)], args := [d] }
  | _ => none }
def HuffReadsWrongFalsely : Prop := huffReadsRow.holds Try.pinned (OpenSpec.ofChange huffReadsWrong)

/-- 'reservoirlaw4.HuffBack': WHATEVER THE INPUT: true; the input reads as it did. -/
def huffBackSpec : ChangeSpec := { name := "huffBack", fn := fun _ => fun
  | [d1, d2] => { results := [.lit (.bool true)], args := [d1, d2] }
  | _ => none }
def huffBackRow : OpenClaim := { program := "ytbpeollodpjicaa", sum := "cba3fbbd0ddf68e8be36f107b7eaf83cbc01740066082c5b373be7a5b0ba90aa", func := "reservoir/reservoirlaw4.HuffBack", spec := "huffBack", apart := false }
def HuffBackSaid : Prop := huffBackRow.holds Try.pinned (OpenSpec.ofChange huffBackSpec)

/-- ITS FALSE NEIGHBOUR: 'it returns false'. Refute it at one input. -/
def huffBackWrong : ChangeSpec := { name := "huffBack", fn := fun _ => fun
  | [d1, d2] => { results := [.lit (.bool false)], args := [d1, d2] }
  | _ => none }
def HuffBackWrongFalsely : Prop := huffBackRow.holds Try.pinned (OpenSpec.ofChange huffBackWrong)

/-- 'reservoirlaw4.HuffApart': WHATEVER THE INPUT: true; the input reads as it did. -/
def huffApartSpec : ChangeSpec := { name := "huffApart", fn := fun _ => fun
  | [d1, d2] => { results := [.lit (.bool true)], args := [d1, d2] }
  | _ => none }
def huffApartRow : OpenClaim := { program := "ytbpeollodpjicaa", sum := "cba3fbbd0ddf68e8be36f107b7eaf83cbc01740066082c5b373be7a5b0ba90aa", func := "reservoir/reservoirlaw4.HuffApart", spec := "huffApart", apart := false }
def HuffApartSaid : Prop := huffApartRow.holds Try.pinned (OpenSpec.ofChange huffApartSpec)

/-- ITS FALSE NEIGHBOUR: 'it returns false'. Refute it at one input. -/
def huffApartWrong : ChangeSpec := { name := "huffApart", fn := fun _ => fun
  | [d1, d2] => { results := [.lit (.bool false)], args := [d1, d2] }
  | _ => none }
def HuffApartWrongFalsely : Prop := huffApartRow.holds Try.pinned (OpenSpec.ofChange huffApartWrong)

/-- 'reservoirlaw4.HuffJoins': WHATEVER THE INPUT: true; the input reads as it did. -/
def huffJoinsSpec : ChangeSpec := { name := "huffJoins", fn := fun _ => fun
  | [d1, d2] => { results := [.lit (.bool true)], args := [d1, d2] }
  | _ => none }
def huffJoinsRow : OpenClaim := { program := "ytbpeollodpjicaa", sum := "cba3fbbd0ddf68e8be36f107b7eaf83cbc01740066082c5b373be7a5b0ba90aa", func := "reservoir/reservoirlaw4.HuffJoins", spec := "huffJoins", apart := false }
def HuffJoinsSaid : Prop := huffJoinsRow.holds Try.pinned (OpenSpec.ofChange huffJoinsSpec)

/-- ITS FALSE NEIGHBOUR: 'it returns false'. Refute it at one input. -/
def huffJoinsWrong : ChangeSpec := { name := "huffJoins", fn := fun _ => fun
  | [d1, d2] => { results := [.lit (.bool false)], args := [d1, d2] }
  | _ => none }
def HuffJoinsWrongFalsely : Prop := huffJoinsRow.holds Try.pinned (OpenSpec.ofChange huffJoinsWrong)

/-- 'reservoirlaw4.HuffRises': WHATEVER THE INPUT: true; the input reads as it did. -/
def huffRisesSpec : ChangeSpec := { name := "huffRises", fn := fun _ => fun
  | [d1, d2] => { results := [.lit (.bool true)], args := [d1, d2] }
  | _ => none }
def huffRisesRow : OpenClaim := { program := "ytbpeollodpjicaa", sum := "cba3fbbd0ddf68e8be36f107b7eaf83cbc01740066082c5b373be7a5b0ba90aa", func := "reservoir/reservoirlaw4.HuffRises", spec := "huffRises", apart := false }
def HuffRisesSaid : Prop := huffRisesRow.holds Try.pinned (OpenSpec.ofChange huffRisesSpec)

/-- ITS FALSE NEIGHBOUR: 'it returns false'. Refute it at one input. -/
def huffRisesWrong : ChangeSpec := { name := "huffRises", fn := fun _ => fun
  | [d1, d2] => { results := [.lit (.bool false)], args := [d1, d2] }
  | _ => none }
def HuffRisesWrongFalsely : Prop := huffRisesRow.holds Try.pinned (OpenSpec.ofChange huffRisesWrong)

/-- 'reservoirlaw4.HuffSizes': WHATEVER THE INPUT: true; the input reads as it did. -/
def huffSizesSpec : ChangeSpec := { name := "huffSizes", fn := fun _ => fun
  | [d1, d2] => { results := [.lit (.bool true)], args := [d1, d2] }
  | _ => none }
def huffSizesRow : OpenClaim := { program := "ytbpeollodpjicaa", sum := "cba3fbbd0ddf68e8be36f107b7eaf83cbc01740066082c5b373be7a5b0ba90aa", func := "reservoir/reservoirlaw4.HuffSizes", spec := "huffSizes", apart := false }
def HuffSizesSaid : Prop := huffSizesRow.holds Try.pinned (OpenSpec.ofChange huffSizesSpec)

/-- ITS FALSE NEIGHBOUR: 'it returns false'. Refute it at one input. -/
def huffSizesWrong : ChangeSpec := { name := "huffSizes", fn := fun _ => fun
  | [d1, d2] => { results := [.lit (.bool false)], args := [d1, d2] }
  | _ => none }
def HuffSizesWrongFalsely : Prop := huffSizesRow.holds Try.pinned (OpenSpec.ofChange huffSizesWrong)

/- THE SECOND FORM. 'bulk': how many values and letters a reading holds, each counted each time it is reached (what is shared counts as often as it is met; a slice's spare places count too). A statement '..UptoSaid' is the law's where the arguments, and the package variables that the reading takes, are together of bulk at most 1048576: NARROWER than '..Said'. Prove '..Said' where nothing that the law and all that it calls make is longer than what came in: it says more and counts as full. Else prove '..UptoSaid'. A law counts once. -/
mutual
def uptoBulk {H : Type} : DataW H → Nat
  | .lit (.string bytes) => bytes.length + 1
  | .lit _ => 1
  | .nil => 1
  | .ptr d => uptoBulk d + 1
  | .slice elems spare => uptoBulkAll elems + uptoBulkAll spare + 1
  | .agg parts => uptoBulkAll parts + 1
  | .iface _ d => uptoBulk d + 1
  | .map entries => uptoBulkEntries entries + 1
  | .held _ => 1
def uptoBulkAll {H : Type} : List (DataW H) → Nat
  | [] => 0
  | d :: r => uptoBulk d + uptoBulkAll r
def uptoBulkEntries {H : Type} : List (Lit × DataW H) → Nat
  | [] => 0
  | x :: r => uptoBulkEntry x + uptoBulkEntries r
def uptoBulkEntry {H : Type} : Lit × DataW H → Nat
  | (.string bytes, d) => bytes.length + uptoBulk d + 1
  | (_, d) => uptoBulk d + 1
 end
def uptoSmall : (H : Type) → List (DataW H) → Bool := fun _ ds => decide (uptoBulkAll ds ≤ 1048576)
def OpenSpec.upto (s : _root_.Go.ChangeSpec) : _root_.Go.OpenSpec := { _root_.Go.OpenSpec.ofChange s with cond := some uptoSmall }

/-- 'reservoirlaw4.HuffRuns', WHERE WHAT IT READS IS OF BULK AT MOST 1048576: true; the input reads as it did. -/
def huffRunsUptoRow : OpenClaim := { program := "ytbpeollodpjicaa", sum := "cba3fbbd0ddf68e8be36f107b7eaf83cbc01740066082c5b373be7a5b0ba90aa", func := "reservoir/reservoirlaw4.HuffRuns", spec := "huffRuns", apart := false, narrowed := true }
def HuffRunsUptoSaid : Prop := huffRunsUptoRow.holds Try.pinned (OpenSpec.upto huffRunsSpec)

/-- 'reservoirlaw4.HuffTells', WHERE WHAT IT READS IS OF BULK AT MOST 1048576: true; the input reads as it did. -/
def huffTellsUptoRow : OpenClaim := { program := "ytbpeollodpjicaa", sum := "cba3fbbd0ddf68e8be36f107b7eaf83cbc01740066082c5b373be7a5b0ba90aa", func := "reservoir/reservoirlaw4.HuffTells", spec := "huffTells", apart := false, narrowed := true }
def HuffTellsUptoSaid : Prop := huffTellsUptoRow.holds Try.pinned (OpenSpec.upto huffTellsSpec)

/-- 'reservoirlaw4.HuffReads', WHERE WHAT IT READS IS OF BULK AT MOST 1048576: true; the input reads as it did. -/
def huffReadsUptoRow : OpenClaim := { program := "ytbpeollodpjicaa", sum := "cba3fbbd0ddf68e8be36f107b7eaf83cbc01740066082c5b373be7a5b0ba90aa", func := "reservoir/reservoirlaw4.HuffReads", spec := "huffReads", apart := false, narrowed := true }
def HuffReadsUptoSaid : Prop := huffReadsUptoRow.holds Try.pinned (OpenSpec.upto huffReadsSpec)

/-- 'reservoirlaw4.HuffBack', WHERE WHAT IT READS IS OF BULK AT MOST 1048576: true; the input reads as it did. -/
def huffBackUptoRow : OpenClaim := { program := "ytbpeollodpjicaa", sum := "cba3fbbd0ddf68e8be36f107b7eaf83cbc01740066082c5b373be7a5b0ba90aa", func := "reservoir/reservoirlaw4.HuffBack", spec := "huffBack", apart := false, narrowed := true }
def HuffBackUptoSaid : Prop := huffBackUptoRow.holds Try.pinned (OpenSpec.upto huffBackSpec)

/-- 'reservoirlaw4.HuffApart', WHERE WHAT IT READS IS OF BULK AT MOST 1048576: true; the input reads as it did. -/
def huffApartUptoRow : OpenClaim := { program := "ytbpeollodpjicaa", sum := "cba3fbbd0ddf68e8be36f107b7eaf83cbc01740066082c5b373be7a5b0ba90aa", func := "reservoir/reservoirlaw4.HuffApart", spec := "huffApart", apart := false, narrowed := true }
def HuffApartUptoSaid : Prop := huffApartUptoRow.holds Try.pinned (OpenSpec.upto huffApartSpec)

/-- 'reservoirlaw4.HuffJoins', WHERE WHAT IT READS IS OF BULK AT MOST 1048576: true; the input reads as it did. -/
def huffJoinsUptoRow : OpenClaim := { program := "ytbpeollodpjicaa", sum := "cba3fbbd0ddf68e8be36f107b7eaf83cbc01740066082c5b373be7a5b0ba90aa", func := "reservoir/reservoirlaw4.HuffJoins", spec := "huffJoins", apart := false, narrowed := true }
def HuffJoinsUptoSaid : Prop := huffJoinsUptoRow.holds Try.pinned (OpenSpec.upto huffJoinsSpec)

/-- 'reservoirlaw4.HuffRises', WHERE WHAT IT READS IS OF BULK AT MOST 1048576: true; the input reads as it did. -/
def huffRisesUptoRow : OpenClaim := { program := "ytbpeollodpjicaa", sum := "cba3fbbd0ddf68e8be36f107b7eaf83cbc01740066082c5b373be7a5b0ba90aa", func := "reservoir/reservoirlaw4.HuffRises", spec := "huffRises", apart := false, narrowed := true }
def HuffRisesUptoSaid : Prop := huffRisesUptoRow.holds Try.pinned (OpenSpec.upto huffRisesSpec)

/-- 'reservoirlaw4.HuffSizes', WHERE WHAT IT READS IS OF BULK AT MOST 1048576: true; the input reads as it did. -/
def huffSizesUptoRow : OpenClaim := { program := "ytbpeollodpjicaa", sum := "cba3fbbd0ddf68e8be36f107b7eaf83cbc01740066082c5b373be7a5b0ba90aa", func := "reservoir/reservoirlaw4.HuffSizes", spec := "huffSizes", apart := false, narrowed := true }
def HuffSizesUptoSaid : Prop := huffSizesUptoRow.holds Try.pinned (OpenSpec.upto huffSizesSpec)

end Rows
end Go.Proofs.Ytbpeollodpjicaa
