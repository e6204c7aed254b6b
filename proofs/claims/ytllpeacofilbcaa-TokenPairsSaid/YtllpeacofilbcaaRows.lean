/-
  No cell of these rows narrows 'for every input' (looked for: loops, veiled, ifaces, maps, wideKeys, modest, calm, conditions, laid).
  DERIVED. THE GIVEN ROWS OF THIS SEAT. 6 by the template 'for every input the law returns true; each argument reads behind the call as it read before'; 0 by the template 'total and deterministic' (their statements: YtllpeacofilbcaaTotals.lean).
  GIVEN WITH THE SEED: the statements are not yours to turn. If you find one false, say at which input.
  Laid BY PROGRAM, IN A SANDBOX (cutbox-rows.mjs): the forced cells as the released guide's own fill.sh prints them over the translation 74f0a7277d7fa386… (all of the seat's roots in one cut). By AI agents, Wed Nov 11 2026. No macro, syntax, notation, axiom, sorry.
-/
import Derived.Test.YtllpeacofilbcaaChecked
import GoSem.Claim
import GoSem.ClaimJoined
import GoSem.ClaimMapViews
import Derived.JoinedTies
import Derived.KernelRfl
namespace Go.Proofs.Ytllpeacofilbcaa
/- THE CELL 'sum', in the pinned program and in every row, IS THE sha256 OF THE DUMP (.gsa) THAT YtllpeacofilbcaaProg.lean LOADS. Nothing in Lean hashes anything: it is a label: what it is worth is what the hold of that sum in a sandbox is worth. -/
noncomputable def Try.pinned : Pinned := { name := "ytllpeacofilbcaa", sum := "74f0a7277d7fa386e72d768d94eef7674fb49616f1f4224c2eca34c6ff2ad35c", checked := Try.checked }
namespace Rows
def none {H : Type} : Left H := { results := [], args := [] }

/-- 'reservoirlaw14.TokenRuns': WHATEVER THE INPUT: true; the input reads as it did. -/
def tokenRunsSpec : ChangeSpec := { name := "tokenRuns", fn := fun _ => fun
  | [] => { results := [.lit (.bool true)], args := [] }
  | _ => none }
def tokenRunsRow : OpenClaim := { program := "ytllpeacofilbcaa", sum := "74f0a7277d7fa386e72d768d94eef7674fb49616f1f4224c2eca34c6ff2ad35c", func := "reservoir/reservoirlaw14.TokenRuns", spec := "tokenRuns", apart := false }
def TokenRunsSaid : Prop := tokenRunsRow.holds Try.pinned (OpenSpec.ofChange tokenRunsSpec)

/-- ITS FALSE NEIGHBOUR: 'it returns false'. Refute it at one input. -/
def tokenRunsWrong : ChangeSpec := { name := "tokenRuns", fn := fun _ => fun
  | [] => { results := [.lit (.bool false)], args := [] }
  | _ => none }
def TokenRunsWrongFalsely : Prop := tokenRunsRow.holds Try.pinned (OpenSpec.ofChange tokenRunsWrong)

/-- 'reservoirlaw14.TokenFields': WHATEVER THE INPUT: true; the input reads as it did. -/
def tokenFieldsSpec : ChangeSpec := { name := "tokenFields", fn := fun _ => fun
  | [d1, d2] => { results := [.lit (.bool true)], args := [d1, d2] }
  | _ => none }
def tokenFieldsRow : OpenClaim := { program := "ytllpeacofilbcaa", sum := "74f0a7277d7fa386e72d768d94eef7674fb49616f1f4224c2eca34c6ff2ad35c", func := "reservoir/reservoirlaw14.TokenFields", spec := "tokenFields", apart := false }
def TokenFieldsSaid : Prop := tokenFieldsRow.holds Try.pinned (OpenSpec.ofChange tokenFieldsSpec)

/-- ITS FALSE NEIGHBOUR: 'it returns false'. Refute it at one input. -/
def tokenFieldsWrong : ChangeSpec := { name := "tokenFields", fn := fun _ => fun
  | [d1, d2] => { results := [.lit (.bool false)], args := [d1, d2] }
  | _ => none }
def TokenFieldsWrongFalsely : Prop := tokenFieldsRow.holds Try.pinned (OpenSpec.ofChange tokenFieldsWrong)

/-- 'reservoirlaw14.TokenBack': WHATEVER THE INPUT: true; the input reads as it did. -/
def tokenBackSpec : ChangeSpec := { name := "tokenBack", fn := fun _ => fun
  | [d] => { results := [.lit (.bool true)], args := [d] }
  | _ => none }
def tokenBackRow : OpenClaim := { program := "ytllpeacofilbcaa", sum := "74f0a7277d7fa386e72d768d94eef7674fb49616f1f4224c2eca34c6ff2ad35c", func := "reservoir/reservoirlaw14.TokenBack", spec := "tokenBack", apart := false }
def TokenBackSaid : Prop := tokenBackRow.holds Try.pinned (OpenSpec.ofChange tokenBackSpec)

/-- ITS FALSE NEIGHBOUR: 'it returns false'. Refute it at one input. -/
def tokenBackWrong : ChangeSpec := { name := "tokenBack", fn := fun _ => fun
  | [d] => { results := [.lit (.bool false)], args := [d] }
  | _ => none }
def TokenBackWrongFalsely : Prop := tokenBackRow.holds Try.pinned (OpenSpec.ofChange tokenBackWrong)

/-- 'reservoirlaw14.TokenJoins': WHATEVER THE INPUT: true; the input reads as it did. -/
def tokenJoinsSpec : ChangeSpec := { name := "tokenJoins", fn := fun _ => fun
  | [d1, d2] => { results := [.lit (.bool true)], args := [d1, d2] }
  | _ => none }
def tokenJoinsRow : OpenClaim := { program := "ytllpeacofilbcaa", sum := "74f0a7277d7fa386e72d768d94eef7674fb49616f1f4224c2eca34c6ff2ad35c", func := "reservoir/reservoirlaw14.TokenJoins", spec := "tokenJoins", apart := false }
def TokenJoinsSaid : Prop := tokenJoinsRow.holds Try.pinned (OpenSpec.ofChange tokenJoinsSpec)

/-- ITS FALSE NEIGHBOUR: 'it returns false'. Refute it at one input. -/
def tokenJoinsWrong : ChangeSpec := { name := "tokenJoins", fn := fun _ => fun
  | [d1, d2] => { results := [.lit (.bool false)], args := [d1, d2] }
  | _ => none }
def TokenJoinsWrongFalsely : Prop := tokenJoinsRow.holds Try.pinned (OpenSpec.ofChange tokenJoinsWrong)

/-- 'reservoirlaw14.TokenTrims': WHATEVER THE INPUT: true; the input reads as it did. -/
def tokenTrimsSpec : ChangeSpec := { name := "tokenTrims", fn := fun _ => fun
  | [d] => { results := [.lit (.bool true)], args := [d] }
  | _ => none }
def tokenTrimsRow : OpenClaim := { program := "ytllpeacofilbcaa", sum := "74f0a7277d7fa386e72d768d94eef7674fb49616f1f4224c2eca34c6ff2ad35c", func := "reservoir/reservoirlaw14.TokenTrims", spec := "tokenTrims", apart := false }
def TokenTrimsSaid : Prop := tokenTrimsRow.holds Try.pinned (OpenSpec.ofChange tokenTrimsSpec)

/-- ITS FALSE NEIGHBOUR: 'it returns false'. Refute it at one input. -/
def tokenTrimsWrong : ChangeSpec := { name := "tokenTrims", fn := fun _ => fun
  | [d] => { results := [.lit (.bool false)], args := [d] }
  | _ => none }
def TokenTrimsWrongFalsely : Prop := tokenTrimsRow.holds Try.pinned (OpenSpec.ofChange tokenTrimsWrong)

/-- 'reservoirlaw14.TokenPairs': WHATEVER THE INPUT: true; the input reads as it did. -/
def tokenPairsSpec : ChangeSpec := { name := "tokenPairs", fn := fun _ => fun
  | [d1, d2, d3] => { results := [.lit (.bool true)], args := [d1, d2, d3] }
  | _ => none }
def tokenPairsRow : OpenClaim := { program := "ytllpeacofilbcaa", sum := "74f0a7277d7fa386e72d768d94eef7674fb49616f1f4224c2eca34c6ff2ad35c", func := "reservoir/reservoirlaw14.TokenPairs", spec := "tokenPairs", apart := false }
def TokenPairsSaid : Prop := tokenPairsRow.holds Try.pinned (OpenSpec.ofChange tokenPairsSpec)

/-- ITS FALSE NEIGHBOUR: 'it returns false'. Refute it at one input. -/
def tokenPairsWrong : ChangeSpec := { name := "tokenPairs", fn := fun _ => fun
  | [d1, d2, d3] => { results := [.lit (.bool false)], args := [d1, d2, d3] }
  | _ => none }
def TokenPairsWrongFalsely : Prop := tokenPairsRow.holds Try.pinned (OpenSpec.ofChange tokenPairsWrong)

/- THE SECOND FORM. 'bulk': how many values and letters a reading holds, each counted each time it is reached (what is shared counts as often as it is met; a slice's spare places count too). A statement '..UptoSaid' is the law's where the arguments, and the package variables that the reading takes, are together of bulk at most 1048576: NARROWER than '..Said'. Prove '..Said' where nothing that the law and all that it calls make is longer than what came in: it says more and counts as full. Else prove '..UptoSaid'. A law counts once. -/
mutual
def uptoBulk {H : Type} : DataW H → Nat
  | .lit (.string bytes) => bytes.length + 1
  | .lit _ => 1
  | .nil => 1
  | .ptr d => uptoBulk d + 1
  | .slice elems spare => uptoBulkAll elems + uptoBulkAll spare + 1
  | .agg parts => uptoBulkAll parts + 1
  | .iface _ d => uptoBulk d + 1
  | .map entries => uptoBulkEntries entries + 1
  | .held _ => 1
def uptoBulkAll {H : Type} : List (DataW H) → Nat
  | [] => 0
  | d :: r => uptoBulk d + uptoBulkAll r
def uptoBulkEntries {H : Type} : List (Lit × DataW H) → Nat
  | [] => 0
  | x :: r => uptoBulkEntry x + uptoBulkEntries r
def uptoBulkEntry {H : Type} : Lit × DataW H → Nat
  | (.string bytes, d) => bytes.length + uptoBulk d + 1
  | (_, d) => uptoBulk d + 1
 end
def uptoSmall : (H : Type) → List (DataW H) → Bool := fun _ ds => decide (uptoBulkAll ds ≤ 1048576)
def OpenSpec.upto (s : _root_.Go.ChangeSpec) : _root_.Go.OpenSpec := { _root_.Go.OpenSpec.ofChange s with cond := some uptoSmall }

/-- 'reservoirlaw14.TokenRuns', WHERE WHAT IT READS IS OF BULK AT MOST 1048576: true; the input reads as it did. -/
def tokenRunsUptoRow : OpenClaim := { program := "ytllpeacofilbcaa", sum := "74f0a7277d7fa386e72d768d94eef7674fb49616f1f4224c2eca34c6ff2ad35c", func := "reservoir/reservoirlaw14.TokenRuns", spec := "tokenRuns", apart := false, narrowed := true }
def TokenRunsUptoSaid : Prop := tokenRunsUptoRow.holds Try.pinned (OpenSpec.upto tokenRunsSpec)

/-- 'reservoirlaw14.TokenFields', WHERE WHAT IT READS IS OF BULK AT MOST 1048576: true; the input reads as it did. -/
def tokenFieldsUptoRow : OpenClaim := { program := "ytllpeacofilbcaa", sum := "74f0a7277d7fa386e72d768d94eef7674fb49616f1f4224c2eca34c6ff2ad35c", func := "reservoir/reservoirlaw14.TokenFields", spec := "tokenFields", apart := false, narrowed := true }
def TokenFieldsUptoSaid : Prop := tokenFieldsUptoRow.holds Try.pinned (OpenSpec.upto tokenFieldsSpec)

/-- 'reservoirlaw14.TokenBack', WHERE WHAT IT READS IS OF BULK AT MOST 1048576: true; the input reads as it did. -/
def tokenBackUptoRow : OpenClaim := { program := "ytllpeacofilbcaa", sum := "74f0a7277d7fa386e72d768d94eef7674fb49616f1f4224c2eca34c6ff2ad35c", func := "reservoir/reservoirlaw14.TokenBack", spec := "tokenBack", apart := false, narrowed := true }
def TokenBackUptoSaid : Prop := tokenBackUptoRow.holds Try.pinned (OpenSpec.upto tokenBackSpec)

/-- 'reservoirlaw14.TokenJoins', WHERE WHAT IT READS IS OF BULK AT MOST 1048576: true; the input reads as it did. -/
def tokenJoinsUptoRow : OpenClaim := { program := "ytllpeacofilbcaa", sum := "74f0a7277d7fa386e72d768d94eef7674fb49616f1f4224c2eca34c6ff2ad35c", func := "reservoir/reservoirlaw14.TokenJoins", spec := "tokenJoins", apart := false, narrowed := true }
def TokenJoinsUptoSaid : Prop := tokenJoinsUptoRow.holds Try.pinned (OpenSpec.upto tokenJoinsSpec)

/-- 'reservoirlaw14.TokenTrims', WHERE WHAT IT READS IS OF BULK AT MOST 1048576: true; the input reads as it did. -/
def tokenTrimsUptoRow : OpenClaim := { program := "ytllpeacofilbcaa", sum := "74f0a7277d7fa386e72d768d94eef7674fb49616f1f4224c2eca34c6ff2ad35c", func := "reservoir/reservoirlaw14.TokenTrims", spec := "tokenTrims", apart := false, narrowed := true }
def TokenTrimsUptoSaid : Prop := tokenTrimsUptoRow.holds Try.pinned (OpenSpec.upto tokenTrimsSpec)

/-- 'reservoirlaw14.TokenPairs', WHERE WHAT IT READS IS OF BULK AT MOST 1048576: true; the input reads as it did. -/
def tokenPairsUptoRow : OpenClaim := { program := "ytllpeacofilbcaa", sum := "74f0a7277d7fa386e72d768d94eef7674fb49616f1f4224c2eca34c6ff2ad35c", func := "reservoir/reservoirlaw14.TokenPairs", spec := "tokenPairs", apart := false, narrowed := true }
def TokenPairsUptoSaid : Prop := tokenPairsUptoRow.holds Try.pinned (OpenSpec.upto tokenPairsSpec)

end Rows
end Go.Proofs.Ytllpeacofilbcaa
