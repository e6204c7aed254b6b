/-
  No cell of these rows narrows 'for every input' (looked for: loops, veiled, ifaces, maps, wideKeys, modest, calm, conditions, laid).
  DERIVED. THE GIVEN ROWS OF THIS SEAT. 4 by the template 'for every input the law returns true; each argument reads behind the call as it read before'; 0 by the template 'total and deterministic' (their statements: YtellbmbklfbbfaaTotals.lean).
  GIVEN WITH THE SEED: the statements are not yours to turn. If you find one false, say at which input.
  Laid BY PROGRAM, IN A SANDBOX (cutbox-rows.mjs): the forced cells as the released guide's own fill.sh prints them over the translation bf53530e6098f6b4… (all of the seat's roots in one cut). By AI agents, Wed Nov 11 2026. No macro, syntax, notation, axiom, sorry.
-/
import Derived.Test.YtellbmbklfbbfaaChecked
import GoSem.Claim
import GoSem.ClaimJoined
import GoSem.ClaimMapViews
import Derived.JoinedTies
import Derived.KernelRfl
namespace Go.Proofs.Ytellbmbklfbbfaa
/- THE CELL 'sum', in the pinned program and in every row, IS THE sha256 OF THE DUMP (.gsa) THAT YtellbmbklfbbfaaProg.lean LOADS. Nothing in Lean hashes anything: it is a label: what it is worth is what the hold of that sum in a sandbox is worth. -/
noncomputable def Try.pinned : Pinned := { name := "ytellbmbklfbbfaa", sum := "bf53530e6098f6b4712b561c66d9b91617cb5cf34a5627f4ac87d61d5700bca3", checked := Try.checked }
namespace Rows
def none {H : Type} : Left H := { results := [], args := [] }

/-- 'reservoirlaw7.UnpackRuns': WHATEVER THE INPUT: true; the input reads as it did. -/
def unpackRunsSpec : ChangeSpec := { name := "unpackRuns", fn := fun _ => fun
  | [] => { results := [.lit (.bool true)], args := [] }
  | _ => none }
def unpackRunsRow : OpenClaim := { program := "ytellbmbklfbbfaa", sum := "bf53530e6098f6b4712b561c66d9b91617cb5cf34a5627f4ac87d61d5700bca3", func := "reservoir/reservoirlaw7.UnpackRuns", spec := "unpackRuns", unfollowed := true, recurses := true, apart := false }
def UnpackRunsSaid : Prop := unpackRunsRow.holds Try.pinned (OpenSpec.ofChange unpackRunsSpec)

/-- ITS FALSE NEIGHBOUR: 'it returns false'. Refute it at one input. -/
def unpackRunsWrong : ChangeSpec := { name := "unpackRuns", fn := fun _ => fun
  | [] => { results := [.lit (.bool false)], args := [] }
  | _ => none }
def UnpackRunsWrongFalsely : Prop := unpackRunsRow.holds Try.pinned (OpenSpec.ofChange unpackRunsWrong)

/-- 'reservoirlaw7.UnpackPlays': WHATEVER THE INPUT: true; the input reads as it did. -/
def unpackPlaysSpec : ChangeSpec := { name := "unpackPlays", fn := fun _ => fun
  | [d1, d2, d3] => { results := [.lit (.bool true)], args := [d1, d2, d3] }
  | _ => none }
def unpackPlaysRow : OpenClaim := { program := "ytellbmbklfbbfaa", sum := "bf53530e6098f6b4712b561c66d9b91617cb5cf34a5627f4ac87d61d5700bca3", func := "reservoir/reservoirlaw7.UnpackPlays", spec := "unpackPlays", unfollowed := true, recurses := true, apart := false }
def UnpackPlaysSaid : Prop := unpackPlaysRow.holds Try.pinned (OpenSpec.ofChange unpackPlaysSpec)

/-- ITS FALSE NEIGHBOUR: 'it returns false'. Refute it at one input. -/
def unpackPlaysWrong : ChangeSpec := { name := "unpackPlays", fn := fun _ => fun
  | [d1, d2, d3] => { results := [.lit (.bool false)], args := [d1, d2, d3] }
  | _ => none }
def UnpackPlaysWrongFalsely : Prop := unpackPlaysRow.holds Try.pinned (OpenSpec.ofChange unpackPlaysWrong)

/-- 'reservoirlaw7.UnpackBounded': WHATEVER THE INPUT: true; the input reads as it did. -/
def unpackBoundedSpec : ChangeSpec := { name := "unpackBounded", fn := fun _ => fun
  | [d1, d2, d3] => { results := [.lit (.bool true)], args := [d1, d2, d3] }
  | _ => none }
def unpackBoundedRow : OpenClaim := { program := "ytellbmbklfbbfaa", sum := "bf53530e6098f6b4712b561c66d9b91617cb5cf34a5627f4ac87d61d5700bca3", func := "reservoir/reservoirlaw7.UnpackBounded", spec := "unpackBounded", unfollowed := true, recurses := true, apart := false }
def UnpackBoundedSaid : Prop := unpackBoundedRow.holds Try.pinned (OpenSpec.ofChange unpackBoundedSpec)

/-- ITS FALSE NEIGHBOUR: 'it returns false'. Refute it at one input. -/
def unpackBoundedWrong : ChangeSpec := { name := "unpackBounded", fn := fun _ => fun
  | [d1, d2, d3] => { results := [.lit (.bool false)], args := [d1, d2, d3] }
  | _ => none }
def UnpackBoundedWrongFalsely : Prop := unpackBoundedRow.holds Try.pinned (OpenSpec.ofChange unpackBoundedWrong)

/-- 'reservoirlaw7.UnpackPlain': WHATEVER THE INPUT: true; the input reads as it did. -/
def unpackPlainSpec : ChangeSpec := { name := "unpackPlain", fn := fun _ => fun
  | [d1, d2] => { results := [.lit (.bool true)], args := [d1, d2] }
  | _ => none }
def unpackPlainRow : OpenClaim := { program := "ytellbmbklfbbfaa", sum := "bf53530e6098f6b4712b561c66d9b91617cb5cf34a5627f4ac87d61d5700bca3", func := "reservoir/reservoirlaw7.UnpackPlain", spec := "unpackPlain", unfollowed := true, recurses := true, apart := false }
def UnpackPlainSaid : Prop := unpackPlainRow.holds Try.pinned (OpenSpec.ofChange unpackPlainSpec)

/-- ITS FALSE NEIGHBOUR: 'it returns false'. Refute it at one input. -/
def unpackPlainWrong : ChangeSpec := { name := "unpackPlain", fn := fun _ => fun
  | [d1, d2] => { results := [.lit (.bool false)], args := [d1, d2] }
  | _ => none }
def UnpackPlainWrongFalsely : Prop := unpackPlainRow.holds Try.pinned (OpenSpec.ofChange unpackPlainWrong)

/- THE SECOND FORM. 'bulk': how many values and letters a reading holds, each counted each time it is reached (what is shared counts as often as it is met; a slice's spare places count too). A statement '..UptoSaid' is the law's where the arguments, and the package variables that the reading takes, are together of bulk at most 1048576: NARROWER than '..Said'. Prove '..Said' where nothing that the law and all that it calls make is longer than what came in: it says more and counts as full. Else prove '..UptoSaid'. A law counts once. -/
mutual
def uptoBulk {H : Type} : DataW H → Nat
  | .lit (.string bytes) => bytes.length + 1
  | .lit _ => 1
  | .nil => 1
  | .ptr d => uptoBulk d + 1
  | .slice elems spare => uptoBulkAll elems + uptoBulkAll spare + 1
  | .agg parts => uptoBulkAll parts + 1
  | .iface _ d => uptoBulk d + 1
  | .map entries => uptoBulkEntries entries + 1
  | .held _ => 1
def uptoBulkAll {H : Type} : List (DataW H) → Nat
  | [] => 0
  | d :: r => uptoBulk d + uptoBulkAll r
def uptoBulkEntries {H : Type} : List (Lit × DataW H) → Nat
  | [] => 0
  | x :: r => uptoBulkEntry x + uptoBulkEntries r
def uptoBulkEntry {H : Type} : Lit × DataW H → Nat
  | (.string bytes, d) => bytes.length + uptoBulk d + 1
  | (_, d) => uptoBulk d + 1
 end
def uptoSmall : (H : Type) → List (DataW H) → Bool := fun _ ds => decide (uptoBulkAll ds ≤ 1048576)
def OpenSpec.upto (s : _root_.Go.ChangeSpec) : _root_.Go.OpenSpec := { _root_.Go.OpenSpec.ofChange s with cond := some uptoSmall }

/-- 'reservoirlaw7.UnpackRuns', WHERE WHAT IT READS IS OF BULK AT MOST 1048576: true; the input reads as it did. -/
def unpackRunsUptoRow : OpenClaim := { program := "ytellbmbklfbbfaa", sum := "bf53530e6098f6b4712b561c66d9b91617cb5cf34a5627f4ac87d61d5700bca3", func := "reservoir/reservoirlaw7.UnpackRuns", spec := "unpackRuns", unfollowed := true, recurses := true, apart := false, narrowed := true }
def UnpackRunsUptoSaid : Prop := unpackRunsUptoRow.holds Try.pinned (OpenSpec.upto unpackRunsSpec)

/-- 'reservoirlaw7.UnpackPlays', WHERE WHAT IT READS IS OF BULK AT MOST 1048576: true; the input reads as it did. -/
def unpackPlaysUptoRow : OpenClaim := { program := "ytellbmbklfbbfaa", sum := "bf53530e6098f6b4712b561c66d9b91617cb5cf34a5627f4ac87d61d5700bca3", func := "reservoir/reservoirlaw7.UnpackPlays", spec := "unpackPlays", unfollowed := true, recurses := true, apart := false, narrowed := true }
def UnpackPlaysUptoSaid : Prop := unpackPlaysUptoRow.holds Try.pinned (OpenSpec.upto unpackPlaysSpec)

/-- 'reservoirlaw7.UnpackBounded', WHERE WHAT IT READS IS OF BULK AT MOST 1048576: true; the input reads as it did. -/
def unpackBoundedUptoRow : OpenClaim := { program := "ytellbmbklfbbfaa", sum := "bf53530e6098f6b4712b561c66d9b91617cb5cf34a5627f4ac87d61d5700bca3", func := "reservoir/reservoirlaw7.UnpackBounded", spec := "unpackBounded", unfollowed := true, recurses := true, apart := false, narrowed := true }
def UnpackBoundedUptoSaid : Prop := unpackBoundedUptoRow.holds Try.pinned (OpenSpec.upto unpackBoundedSpec)

/-- 'reservoirlaw7.UnpackPlain', WHERE WHAT IT READS IS OF BULK AT MOST 1048576: true; the input reads as it did. -/
def unpackPlainUptoRow : OpenClaim := { program := "ytellbmbklfbbfaa", sum := "bf53530e6098f6b4712b561c66d9b91617cb5cf34a5627f4ac87d61d5700bca3", func := "reservoir/reservoirlaw7.UnpackPlain", spec := "unpackPlain", unfollowed := true, recurses := true, apart := false, narrowed := true }
def UnpackPlainUptoSaid : Prop := unpackPlainUptoRow.holds Try.pinned (OpenSpec.upto unpackPlainSpec)

end Rows
end Go.Proofs.Ytellbmbklfbbfaa
