/-
  No cell of these rows narrows 'for every input' (looked for: loops, veiled, ifaces, maps, wideKeys, modest, calm, conditions, laid).
  DERIVED. THE GIVEN ROWS OF THIS SEAT. 6 by the template 'for every input the law returns true; each argument reads behind the call as it read before'; 0 by the template 'total and deterministic' (their statements: YtocehonfnpjcjaaTotals.lean).
  GIVEN WITH THE SEED: the statements are not yours to turn. If you find one false, say at which input.
  Laid BY PROGRAM, IN A SANDBOX (cutbox-rows.mjs): the forced cells as the released guide's own fill.sh prints them over the translation 55b5f4241352906d… (all of the seat's roots in one cut). By AI agents, Wed Nov 11 2026. No macro, syntax, notation, axiom, sorry.
-/
import Derived.Test.YtocehonfnpjcjaaChecked
import GoSem.Claim
import GoSem.ClaimJoined
import GoSem.ClaimMapViews
import Derived.JoinedTies
import Derived.KernelRfl
namespace Go.Proofs.Ytocehonfnpjcjaa
/- THE CELL 'sum', in the pinned program and in every row, IS THE sha256 OF THE DUMP (.gsa) THAT YtocehonfnpjcjaaProg.lean LOADS. Nothing in Lean hashes anything: it is a label: what it is worth is what the hold of that sum in a sandbox is worth. -/
noncomputable def Try.pinned : Pinned := { name := "ytocehonfnpjcjaa", sum := "55b5f4241352906d1450eb1ddab96d6c41ce70feaf597ad18a883a1e31f7a0c6", checked := Try.checked }
namespace Rows
def none {H : Type} : Left H := { results := [], args := [] }

/-- 'reservoirlaw11.SettingRuns': WHATEVER THE INPUT: true; the input reads as it did. -/
def settingRunsSpec : ChangeSpec := { name := "settingRuns", fn := fun _ => fun
  | [] => { results := [.lit (.bool true)], args := [] }
  | _ => none }
def settingRunsRow : OpenClaim := { program := "ytocehonfnpjcjaa", sum := "55b5f4241352906d1450eb1ddab96d6c41ce70feaf597ad18a883a1e31f7a0c6", func := "reservoir/reservoirlaw11.SettingRuns", spec := "settingRuns", apart := false }
def SettingRunsSaid : Prop := settingRunsRow.holds Try.pinned (OpenSpec.ofChange settingRunsSpec)

/-- ITS FALSE NEIGHBOUR: 'it returns false'. Refute it at one input. -/
def settingRunsWrong : ChangeSpec := { name := "settingRuns", fn := fun _ => fun
  | [] => { results := [.lit (.bool false)], args := [] }
  | _ => none }
def SettingRunsWrongFalsely : Prop := settingRunsRow.holds Try.pinned (OpenSpec.ofChange settingRunsWrong)

/-- 'reservoirlaw11.SettingTells': WHATEVER THE INPUT: true; the input reads as it did. -/
def settingTellsSpec : ChangeSpec := { name := "settingTells", fn := fun _ => fun
  | [d1, d2] => { results := [.lit (.bool true)], args := [d1, d2] }
  | _ => none }
def settingTellsRow : OpenClaim := { program := "ytocehonfnpjcjaa", sum := "55b5f4241352906d1450eb1ddab96d6c41ce70feaf597ad18a883a1e31f7a0c6", func := "reservoir/reservoirlaw11.SettingTells", spec := "settingTells", apart := false }
def SettingTellsSaid : Prop := settingTellsRow.holds Try.pinned (OpenSpec.ofChange settingTellsSpec)

/-- ITS FALSE NEIGHBOUR: 'it returns false'. Refute it at one input. -/
def settingTellsWrong : ChangeSpec := { name := "settingTells", fn := fun _ => fun
  | [d1, d2] => { results := [.lit (.bool false)], args := [d1, d2] }
  | _ => none }
def SettingTellsWrongFalsely : Prop := settingTellsRow.holds Try.pinned (OpenSpec.ofChange settingTellsWrong)

/-- 'reservoirlaw11.SettingParts': WHATEVER THE INPUT: true; the input reads as it did. -/
def settingPartsSpec : ChangeSpec := { name := "settingParts", fn := fun _ => fun
  | [d1, d2, d3] => { results := [.lit (.bool true)], args := [d1, d2, d3] }
  | _ => none }
def settingPartsRow : OpenClaim := { program := "ytocehonfnpjcjaa", sum := "55b5f4241352906d1450eb1ddab96d6c41ce70feaf597ad18a883a1e31f7a0c6", func := "reservoir/reservoirlaw11.SettingParts", spec := "settingParts", apart := false }
def SettingPartsSaid : Prop := settingPartsRow.holds Try.pinned (OpenSpec.ofChange settingPartsSpec)

/-- ITS FALSE NEIGHBOUR: 'it returns false'. Refute it at one input. -/
def settingPartsWrong : ChangeSpec := { name := "settingParts", fn := fun _ => fun
  | [d1, d2, d3] => { results := [.lit (.bool false)], args := [d1, d2, d3] }
  | _ => none }
def SettingPartsWrongFalsely : Prop := settingPartsRow.holds Try.pinned (OpenSpec.ofChange settingPartsWrong)

/-- 'reservoirlaw11.SettingBack': WHATEVER THE INPUT: true; the input reads as it did. -/
def settingBackSpec : ChangeSpec := { name := "settingBack", fn := fun _ => fun
  | [d] => { results := [.lit (.bool true)], args := [d] }
  | _ => none }
def settingBackRow : OpenClaim := { program := "ytocehonfnpjcjaa", sum := "55b5f4241352906d1450eb1ddab96d6c41ce70feaf597ad18a883a1e31f7a0c6", func := "reservoir/reservoirlaw11.SettingBack", spec := "settingBack", apart := false }
def SettingBackSaid : Prop := settingBackRow.holds Try.pinned (OpenSpec.ofChange settingBackSpec)

/-- ITS FALSE NEIGHBOUR: 'it returns false'. Refute it at one input. -/
def settingBackWrong : ChangeSpec := { name := "settingBack", fn := fun _ => fun
  | [d] => { results := [.lit (.bool false)], args := [d] }
  | _ => none }
def SettingBackWrongFalsely : Prop := settingBackRow.holds Try.pinned (OpenSpec.ofChange settingBackWrong)

/-- 'reservoirlaw11.SettingFirst': WHATEVER THE INPUT: true; the input reads as it did. -/
def settingFirstSpec : ChangeSpec := { name := "settingFirst", fn := fun _ => fun
  | [d1, d2] => { results := [.lit (.bool true)], args := [d1, d2] }
  | _ => none }
def settingFirstRow : OpenClaim := { program := "ytocehonfnpjcjaa", sum := "55b5f4241352906d1450eb1ddab96d6c41ce70feaf597ad18a883a1e31f7a0c6", func := "reservoir/reservoirlaw11.SettingFirst", spec := "settingFirst", apart := false }
def SettingFirstSaid : Prop := settingFirstRow.holds Try.pinned (OpenSpec.ofChange settingFirstSpec)

/-- ITS FALSE NEIGHBOUR: 'it returns false'. Refute it at one input. -/
def settingFirstWrong : ChangeSpec := { name := "settingFirst", fn := fun _ => fun
  | [d1, d2] => { results := [.lit (.bool false)], args := [d1, d2] }
  | _ => none }
def SettingFirstWrongFalsely : Prop := settingFirstRow.holds Try.pinned (OpenSpec.ofChange settingFirstWrong)

/-- 'reservoirlaw11.SettingLast': WHATEVER THE INPUT: true; the input reads as it did. -/
def settingLastSpec : ChangeSpec := { name := "settingLast", fn := fun _ => fun
  | [d1, d2, d3] => { results := [.lit (.bool true)], args := [d1, d2, d3] }
  | _ => none }
def settingLastRow : OpenClaim := { program := "ytocehonfnpjcjaa", sum := "55b5f4241352906d1450eb1ddab96d6c41ce70feaf597ad18a883a1e31f7a0c6", func := "reservoir/reservoirlaw11.SettingLast", spec := "settingLast", apart := false }
def SettingLastSaid : Prop := settingLastRow.holds Try.pinned (OpenSpec.ofChange settingLastSpec)

/-- ITS FALSE NEIGHBOUR: 'it returns false'. Refute it at one input. -/
def settingLastWrong : ChangeSpec := { name := "settingLast", fn := fun _ => fun
  | [d1, d2, d3] => { results := [.lit (.bool false)], args := [d1, d2, d3] }
  | _ => none }
def SettingLastWrongFalsely : Prop := settingLastRow.holds Try.pinned (OpenSpec.ofChange settingLastWrong)

/- THE SECOND FORM. 'bulk': how many values and letters a reading holds, each counted each time it is reached (what is shared counts as often as it is met; a slice's spare places count too). A statement '..UptoSaid' is the law's where the arguments, and the package variables that the reading takes, are together of bulk at most 1048576: NARROWER than '..Said'. Prove '..Said' where nothing that the law and all that it calls make is longer than what came in: it says more and counts as full. Else prove '..UptoSaid'. A law counts once. -/
mutual
def uptoBulk {H : Type} : DataW H → Nat
  | .lit (.string bytes) => bytes.length + 1
  | .lit _ => 1
  | .nil => 1
  | .ptr d => uptoBulk d + 1
  | .slice elems spare => uptoBulkAll elems + uptoBulkAll spare + 1
  | .agg parts => uptoBulkAll parts + 1
  | .iface _ d => uptoBulk d + 1
  | .map entries => uptoBulkEntries entries + 1
  | .held _ => 1
def uptoBulkAll {H : Type} : List (DataW H) → Nat
  | [] => 0
  | d :: r => uptoBulk d + uptoBulkAll r
def uptoBulkEntries {H : Type} : List (Lit × DataW H) → Nat
  | [] => 0
  | x :: r => uptoBulkEntry x + uptoBulkEntries r
def uptoBulkEntry {H : Type} : Lit × DataW H → Nat
  | (.string bytes, d) => bytes.length + uptoBulk d + 1
  | (_, d) => uptoBulk d + 1
 end
def uptoSmall : (H : Type) → List (DataW H) → Bool := fun _ ds => decide (uptoBulkAll ds ≤ 1048576)
def OpenSpec.upto (s : _root_.Go.ChangeSpec) : _root_.Go.OpenSpec := { _root_.Go.OpenSpec.ofChange s with cond := some uptoSmall }

/-- 'reservoirlaw11.SettingRuns', WHERE WHAT IT READS IS OF BULK AT MOST 1048576: true; the input reads as it did. -/
def settingRunsUptoRow : OpenClaim := { program := "ytocehonfnpjcjaa", sum := "55b5f4241352906d1450eb1ddab96d6c41ce70feaf597ad18a883a1e31f7a0c6", func := "reservoir/reservoirlaw11.SettingRuns", spec := "settingRuns", apart := false, narrowed := true }
def SettingRunsUptoSaid : Prop := settingRunsUptoRow.holds Try.pinned (OpenSpec.upto settingRunsSpec)

/-- 'reservoirlaw11.SettingTells', WHERE WHAT IT READS IS OF BULK AT MOST 1048576: true; the input reads as it did. -/
def settingTellsUptoRow : OpenClaim := { program := "ytocehonfnpjcjaa", sum := "55b5f4241352906d1450eb1ddab96d6c41ce70feaf597ad18a883a1e31f7a0c6", func := "reservoir/reservoirlaw11.SettingTells", spec := "settingTells", apart := false, narrowed := true }
def SettingTellsUptoSaid : Prop := settingTellsUptoRow.holds Try.pinned (OpenSpec.upto settingTellsSpec)

/-- 'reservoirlaw11.SettingParts', WHERE WHAT IT READS IS OF BULK AT MOST 1048576: true; the input reads as it did. -/
def settingPartsUptoRow : OpenClaim := { program := "ytocehonfnpjcjaa", sum := "55b5f4241352906d1450eb1ddab96d6c41ce70feaf597ad18a883a1e31f7a0c6", func := "reservoir/reservoirlaw11.SettingParts", spec := "settingParts", apart := false, narrowed := true }
def SettingPartsUptoSaid : Prop := settingPartsUptoRow.holds Try.pinned (OpenSpec.upto settingPartsSpec)

/-- 'reservoirlaw11.SettingBack', WHERE WHAT IT READS IS OF BULK AT MOST 1048576: true; the input reads as it did. -/
def settingBackUptoRow : OpenClaim := { program := "ytocehonfnpjcjaa", sum := "55b5f4241352906d1450eb1ddab96d6c41ce70feaf597ad18a883a1e31f7a0c6", func := "reservoir/reservoirlaw11.SettingBack", spec := "settingBack", apart := false, narrowed := true }
def SettingBackUptoSaid : Prop := settingBackUptoRow.holds Try.pinned (OpenSpec.upto settingBackSpec)

/-- 'reservoirlaw11.SettingFirst', WHERE WHAT IT READS IS OF BULK AT MOST 1048576: true; the input reads as it did. -/
def settingFirstUptoRow : OpenClaim := { program := "ytocehonfnpjcjaa", sum := "55b5f4241352906d1450eb1ddab96d6c41ce70feaf597ad18a883a1e31f7a0c6", func := "reservoir/reservoirlaw11.SettingFirst", spec := "settingFirst", apart := false, narrowed := true }
def SettingFirstUptoSaid : Prop := settingFirstUptoRow.holds Try.pinned (OpenSpec.upto settingFirstSpec)

/-- 'reservoirlaw11.SettingLast', WHERE WHAT IT READS IS OF BULK AT MOST 1048576: true; the input reads as it did. -/
def settingLastUptoRow : OpenClaim := { program := "ytocehonfnpjcjaa", sum := "55b5f4241352906d1450eb1ddab96d6c41ce70feaf597ad18a883a1e31f7a0c6", func := "reservoir/reservoirlaw11.SettingLast", spec := "settingLast", apart := false, narrowed := true }
def SettingLastUptoSaid : Prop := settingLastUptoRow.holds Try.pinned (OpenSpec.upto settingLastSpec)

end Rows
end Go.Proofs.Ytocehonfnpjcjaa
