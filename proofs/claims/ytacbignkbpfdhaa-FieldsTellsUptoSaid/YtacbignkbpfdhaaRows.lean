/-
  No cell of these rows narrows 'for every input' (looked for: loops, veiled, ifaces, maps, wideKeys, modest, calm, conditions, laid).
  DERIVED. THE GIVEN ROWS OF THIS SEAT. 4 by the template 'for every input the law returns true; each argument reads behind the call as it read before'; 0 by the template 'total and deterministic' (their statements: YtacbignkbpfdhaaTotals.lean).
  GIVEN WITH THE SEED: the statements are not yours to turn. If you find one false, say at which input.
  Laid BY PROGRAM, IN A SANDBOX (cutbox-rows.mjs): the forced cells as the released guide's own fill.sh prints them over the translation 8f8720d89e86ed34… (all of the seat's roots in one cut). By AI agents, Wed Nov 11 2026. No macro, syntax, notation, axiom, sorry.
-/
import Derived.Test.YtacbignkbpfdhaaChecked
import GoSem.Claim
import GoSem.ClaimJoined
import GoSem.ClaimMapViews
import Derived.JoinedTies
import Derived.KernelRfl
namespace Go.Proofs.Ytacbignkbpfdhaa
/- THE CELL 'sum', in the pinned program and in every row, IS THE sha256 OF THE DUMP (.gsa) THAT YtacbignkbpfdhaaProg.lean LOADS. Nothing in Lean hashes anything: it is a label: what it is worth is what the hold of that sum in a sandbox is worth. -/
noncomputable def Try.pinned : Pinned := { name := "ytacbignkbpfdhaa", sum := "8f8720d89e86ed34f59d2a4c9612f9f509b316e53113c4daafe61328807204c5", checked := Try.checked }
namespace Rows
def none {H : Type} : Left H := { results := [], args := [] }

/-- 'reservoirlaw5.FieldsRuns': WHATEVER THE INPUT: true; the input reads as it did. -/
def fieldsRunsSpec : ChangeSpec := { name := "fieldsRuns", fn := fun _ => fun
  | [] => { results := [.lit (.bool true)], args := [] }
  | _ => none }
def fieldsRunsRow : OpenClaim := { program := "ytacbignkbpfdhaa", sum := "8f8720d89e86ed34f59d2a4c9612f9f509b316e53113c4daafe61328807204c5", func := "reservoir/reservoirlaw5.FieldsRuns", spec := "fieldsRuns", apart := false }
def FieldsRunsSaid : Prop := fieldsRunsRow.holds Try.pinned (OpenSpec.ofChange fieldsRunsSpec)

/-- ITS FALSE NEIGHBOUR: 'it returns false'. Refute it at one input. -/
def fieldsRunsWrong : ChangeSpec := { name := "fieldsRuns", fn := fun _ => fun
  | [] => { results := [.lit (.bool false)], args := [] }
  | _ => none }
def FieldsRunsWrongFalsely : Prop := fieldsRunsRow.holds Try.pinned (OpenSpec.ofChange fieldsRunsWrong)

/-- 'reservoirlaw5.FieldsTells': WHATEVER THE INPUT: true; the input reads as it did. -/
def fieldsTellsSpec : ChangeSpec := { name := "fieldsTells", fn := fun _ => fun
  | [d1, d2] => { results := [.lit (.bool true)], args := [d1, d2] }
  | _ => none }
def fieldsTellsRow : OpenClaim := { program := "ytacbignkbpfdhaa", sum := "8f8720d89e86ed34f59d2a4c9612f9f509b316e53113c4daafe61328807204c5", func := "reservoir/reservoirlaw5.FieldsTells", spec := "fieldsTells", apart := false }
def FieldsTellsSaid : Prop := fieldsTellsRow.holds Try.pinned (OpenSpec.ofChange fieldsTellsSpec)

/-- ITS FALSE NEIGHBOUR: 'it returns false'. Refute it at one input. -/
def fieldsTellsWrong : ChangeSpec := { name := "fieldsTells", fn := fun _ => fun
  | [d1, d2] => { results := [.lit (.bool false)], args := [d1, d2] }
  | _ => none }
def FieldsTellsWrongFalsely : Prop := fieldsTellsRow.holds Try.pinned (OpenSpec.ofChange fieldsTellsWrong)

/-- 'reservoirlaw5.FieldsApart': WHATEVER THE INPUT: true; the input reads as it did. -/
def fieldsApartSpec : ChangeSpec := { name := "fieldsApart", fn := fun _ => fun
  | [d1, d2] => { results := [.lit (.bool true)], args := [d1, d2] }
  | _ => none }
def fieldsApartRow : OpenClaim := { program := "ytacbignkbpfdhaa", sum := "8f8720d89e86ed34f59d2a4c9612f9f509b316e53113c4daafe61328807204c5", func := "reservoir/reservoirlaw5.FieldsApart", spec := "fieldsApart", apart := false }
def FieldsApartSaid : Prop := fieldsApartRow.holds Try.pinned (OpenSpec.ofChange fieldsApartSpec)

/-- ITS FALSE NEIGHBOUR: 'it returns false'. Refute it at one input. -/
def fieldsApartWrong : ChangeSpec := { name := "fieldsApart", fn := fun _ => fun
  | [d1, d2] => { results := [.lit (.bool false)], args := [d1, d2] }
  | _ => none }
def FieldsApartWrongFalsely : Prop := fieldsApartRow.holds Try.pinned (OpenSpec.ofChange fieldsApartWrong)

/-- 'reservoirlaw5.FieldsSums': WHATEVER THE INPUT: true; the input reads as it did. -/
def fieldsSumsSpec : ChangeSpec := { name := "fieldsSums", fn := fun _ => fun
  | [d1, d2] => { results := [.lit (.bool true)], args := [d1, d2] }
  | _ => none }
def fieldsSumsRow : OpenClaim := { program := "ytacbignkbpfdhaa", sum := "8f8720d89e86ed34f59d2a4c9612f9f509b316e53113c4daafe61328807204c5", func := "reservoir/reservoirlaw5.FieldsSums", spec := "fieldsSums", apart := false }
def FieldsSumsSaid : Prop := fieldsSumsRow.holds Try.pinned (OpenSpec.ofChange fieldsSumsSpec)

/-- ITS FALSE NEIGHBOUR: 'it returns false'. Refute it at one input. -/
def fieldsSumsWrong : ChangeSpec := { name := "fieldsSums", fn := fun _ => fun
  | [d1, d2] => { results := [.lit (.bool false)], args := [d1, d2] }
  | _ => none }
def FieldsSumsWrongFalsely : Prop := fieldsSumsRow.holds Try.pinned (OpenSpec.ofChange fieldsSumsWrong)

/- THE SECOND FORM. 'bulk': how many values and letters a reading holds, each counted each time it is reached (what is shared counts as often as it is met; a slice's spare places count too). A statement '..UptoSaid' is the law's where the arguments, and the package variables that the reading takes, are together of bulk at most 1048576: NARROWER than '..Said'. Prove '..Said' where nothing that the law and all that it calls make is longer than what came in: it says more and counts as full. Else prove '..UptoSaid'. A law counts once. -/
mutual
def uptoBulk {H : Type} : DataW H → Nat
  | .lit (.string bytes) => bytes.length + 1
  | .lit _ => 1
  | .nil => 1
  | .ptr d => uptoBulk d + 1
  | .slice elems spare => uptoBulkAll elems + uptoBulkAll spare + 1
  | .agg parts => uptoBulkAll parts + 1
  | .iface _ d => uptoBulk d + 1
  | .map entries => uptoBulkEntries entries + 1
  | .held _ => 1
def uptoBulkAll {H : Type} : List (DataW H) → Nat
  | [] => 0
  | d :: r => uptoBulk d + uptoBulkAll r
def uptoBulkEntries {H : Type} : List (Lit × DataW H) → Nat
  | [] => 0
  | x :: r => uptoBulkEntry x + uptoBulkEntries r
def uptoBulkEntry {H : Type} : Lit × DataW H → Nat
  | (.string bytes, d) => bytes.length + uptoBulk d + 1
  | (_, d) => uptoBulk d + 1
 end
def uptoSmall : (H : Type) → List (DataW H) → Bool := fun _ ds => decide (uptoBulkAll ds ≤ 1048576)
def OpenSpec.upto (s : _root_.Go.ChangeSpec) : _root_.Go.OpenSpec := { _root_.Go.OpenSpec.ofChange s with cond := some uptoSmall }

/-- 'reservoirlaw5.FieldsRuns', WHERE WHAT IT READS IS OF BULK AT MOST 1048576: true; the input reads as it did. -/
def fieldsRunsUptoRow : OpenClaim := { program := "ytacbignkbpfdhaa", sum := "8f8720d89e86ed34f59d2a4c9612f9f509b316e53113c4daafe61328807204c5", func := "reservoir/reservoirlaw5.FieldsRuns", spec := "fieldsRuns", apart := false, narrowed := true }
def FieldsRunsUptoSaid : Prop := fieldsRunsUptoRow.holds Try.pinned (OpenSpec.upto fieldsRunsSpec)

/-- 'reservoirlaw5.FieldsTells', WHERE WHAT IT READS IS OF BULK AT MOST 1048576: true; the input reads as it did. -/
def fieldsTellsUptoRow : OpenClaim := { program := "ytacbignkbpfdhaa", sum := "8f8720d89e86ed34f59d2a4c9612f9f509b316e53113c4daafe61328807204c5", func := "reservoir/reservoirlaw5.FieldsTells", spec := "fieldsTells", apart := false, narrowed := true }
def FieldsTellsUptoSaid : Prop := fieldsTellsUptoRow.holds Try.pinned (OpenSpec.upto fieldsTellsSpec)

/-- 'reservoirlaw5.FieldsApart', WHERE WHAT IT READS IS OF BULK AT MOST 1048576: true; the input reads as it did. -/
def fieldsApartUptoRow : OpenClaim := { program := "ytacbignkbpfdhaa", sum := "8f8720d89e86ed34f59d2a4c9612f9f509b316e53113c4daafe61328807204c5", func := "reservoir/reservoirlaw5.FieldsApart", spec := "fieldsApart", apart := false, narrowed := true }
def FieldsApartUptoSaid : Prop := fieldsApartUptoRow.holds Try.pinned (OpenSpec.upto fieldsApartSpec)

/-- 'reservoirlaw5.FieldsSums', WHERE WHAT IT READS IS OF BULK AT MOST 1048576: true; the input reads as it did. -/
def fieldsSumsUptoRow : OpenClaim := { program := "ytacbignkbpfdhaa", sum := "8f8720d89e86ed34f59d2a4c9612f9f509b316e53113c4daafe61328807204c5", func := "reservoir/reservoirlaw5.FieldsSums", spec := "fieldsSums", apart := false, narrowed := true }
def FieldsSumsUptoSaid : Prop := fieldsSumsUptoRow.holds Try.pinned (OpenSpec.upto fieldsSumsSpec)

end Rows
end Go.Proofs.Ytacbignkbpfdhaa
