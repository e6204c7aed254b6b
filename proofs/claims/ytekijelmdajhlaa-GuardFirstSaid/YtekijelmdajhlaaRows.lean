/-
  No cell of these rows narrows 'for every input' (looked for: loops, veiled, ifaces, maps, wideKeys, modest, calm, conditions, laid).
  DERIVED. THE GIVEN ROWS OF THIS SEAT. 6 by the template 'for every input the law returns true; each argument reads behind the call as it read before'; 0 by the template 'total and deterministic' (their statements: YtekijelmdajhlaaTotals.lean).
  GIVEN WITH THE SEED: the statements are not yours to turn. If you find one false, say at which input.
  Laid BY PROGRAM, IN A SANDBOX (cutbox-rows.mjs): the forced cells as the released guide's own fill.sh prints them over the translation b45f8b9a02e48ca6… (all of the seat's roots in one cut). By AI agents, Wed Nov 11 2026. No macro, syntax, notation, axiom, sorry.
-/
import Derived.Test.YtekijelmdajhlaaChecked
import GoSem.Claim
import GoSem.ClaimJoined
import GoSem.ClaimMapViews
import Derived.JoinedTies
import Derived.KernelRfl
namespace Go.Proofs.Ytekijelmdajhlaa
/- THE CELL 'sum', in the pinned program and in every row, IS THE sha256 OF THE DUMP (.gsa) THAT YtekijelmdajhlaaProg.lean LOADS. Nothing in Lean hashes anything: it is a label: what it is worth is what the hold of that sum in a sandbox is worth. -/
noncomputable def Try.pinned : Pinned := { name := "ytekijelmdajhlaa", sum := "b45f8b9a02e48ca68fd5f8b602727a4bd5dede3bfd2e3433671ff4de0aabbdd2", checked := Try.checked }
namespace Rows
def none {H : Type} : Left H := { results := [], args := [] }

/-- 'reservoirlaw1.GuardRuns': WHATEVER THE INPUT: true; the input reads as it did. -/
def guardRunsSpec : ChangeSpec := { name := "guardRuns", fn := fun _ => fun
  | [] => { results := [.lit (.bool true)], args := [] }
  | _ => none }
def guardRunsRow : OpenClaim := { program := "ytekijelmdajhlaa", sum := "b45f8b9a02e48ca68fd5f8b602727a4bd5dede3bfd2e3433671ff4de0aabbdd2", func := "reservoir/reservoirlaw1.GuardRuns", spec := "guardRuns", unfollowed := true, recurses := true, apart := false }
def GuardRunsSaid : Prop := guardRunsRow.holds Try.pinned (OpenSpec.ofChange guardRunsSpec)

/-- ITS FALSE NEIGHBOUR: 'it returns false'. Refute it at one input. -/
def guardRunsWrong : ChangeSpec := { name := "guardRuns", fn := fun _ => fun
  | [] => { results := [.lit (.bool false)], args := [] }
  | _ => none }
def GuardRunsWrongFalsely : Prop := guardRunsRow.holds Try.pinned (OpenSpec.ofChange guardRunsWrong)

/-- 'reservoirlaw1.GuardPlays': WHATEVER THE INPUT: true; the input reads as it did. -/
def guardPlaysSpec : ChangeSpec := { name := "guardPlays", fn := fun _ => fun
  | [d] => { results := [.lit (.bool true)], args := [d] }
  | _ => none }
def guardPlaysRow : OpenClaim := { program := "ytekijelmdajhlaa", sum := "b45f8b9a02e48ca68fd5f8b602727a4bd5dede3bfd2e3433671ff4de0aabbdd2", func := "reservoir/reservoirlaw1.GuardPlays", spec := "guardPlays", unfollowed := true, recurses := true, apart := false }
def GuardPlaysSaid : Prop := guardPlaysRow.holds Try.pinned (OpenSpec.ofChange guardPlaysSpec)

/-- ITS FALSE NEIGHBOUR: 'it returns false'. Refute it at one input. -/
def guardPlaysWrong : ChangeSpec := { name := "guardPlays", fn := fun _ => fun
  | [d] => { results := [.lit (.bool false)], args := [d] }
  | _ => none }
def GuardPlaysWrongFalsely : Prop := guardPlaysRow.holds Try.pinned (OpenSpec.ofChange guardPlaysWrong)

/-- 'reservoirlaw1.GuardFirst': WHATEVER THE INPUT: true; the input reads as it did. -/
def guardFirstSpec : ChangeSpec := { name := "guardFirst", fn := fun _ => fun
  | [d] => { results := [.lit (.bool true)], args := [d] }
  | _ => none }
def guardFirstRow : OpenClaim := { program := "ytekijelmdajhlaa", sum := "b45f8b9a02e48ca68fd5f8b602727a4bd5dede3bfd2e3433671ff4de0aabbdd2", func := "reservoir/reservoirlaw1.GuardFirst", spec := "guardFirst", unfollowed := true, recurses := true, apart := false }
def GuardFirstSaid : Prop := guardFirstRow.holds Try.pinned (OpenSpec.ofChange guardFirstSpec)

/-- ITS FALSE NEIGHBOUR: 'it returns false'. Refute it at one input. -/
def guardFirstWrong : ChangeSpec := { name := "guardFirst", fn := fun _ => fun
  | [d] => { results := [.lit (.bool false)], args := [d] }
  | _ => none }
def GuardFirstWrongFalsely : Prop := guardFirstRow.holds Try.pinned (OpenSpec.ofChange guardFirstWrong)

/-- 'reservoirlaw1.GuardLast': WHATEVER THE INPUT: true; the input reads as it did. -/
def guardLastSpec : ChangeSpec := { name := "guardLast", fn := fun _ => fun
  | [d1, d2] => { results := [.lit (.bool true)], args := [d1, d2] }
  | _ => none }
def guardLastRow : OpenClaim := { program := "ytekijelmdajhlaa", sum := "b45f8b9a02e48ca68fd5f8b602727a4bd5dede3bfd2e3433671ff4de0aabbdd2", func := "reservoir/reservoirlaw1.GuardLast", spec := "guardLast", unfollowed := true, recurses := true, apart := false }
def GuardLastSaid : Prop := guardLastRow.holds Try.pinned (OpenSpec.ofChange guardLastSpec)

/-- ITS FALSE NEIGHBOUR: 'it returns false'. Refute it at one input. -/
def guardLastWrong : ChangeSpec := { name := "guardLast", fn := fun _ => fun
  | [d1, d2] => { results := [.lit (.bool false)], args := [d1, d2] }
  | _ => none }
def GuardLastWrongFalsely : Prop := guardLastRow.holds Try.pinned (OpenSpec.ofChange guardLastWrong)

/-- 'reservoirlaw1.GuardNested': WHATEVER THE INPUT: true; the input reads as it did. -/
def guardNestedSpec : ChangeSpec := { name := "guardNested", fn := fun _ => fun
  | [d1, d2, d3] => { results := [.lit (.bool true)], args := [d1, d2, d3] }
  | _ => none }
def guardNestedRow : OpenClaim := { program := "ytekijelmdajhlaa", sum := "b45f8b9a02e48ca68fd5f8b602727a4bd5dede3bfd2e3433671ff4de0aabbdd2", func := "reservoir/reservoirlaw1.GuardNested", spec := "guardNested", unfollowed := true, recurses := true, apart := false }
def GuardNestedSaid : Prop := guardNestedRow.holds Try.pinned (OpenSpec.ofChange guardNestedSpec)

/-- ITS FALSE NEIGHBOUR: 'it returns false'. Refute it at one input. -/
def guardNestedWrong : ChangeSpec := { name := "guardNested", fn := fun _ => fun
  | [d1, d2, d3] => { results := [.lit (.bool false)], args := [d1, d2, d3] }
  | _ => none }
def GuardNestedWrongFalsely : Prop := guardNestedRow.holds Try.pinned (OpenSpec.ofChange guardNestedWrong)

/-- 'reservoirlaw1.GuardMusts': WHATEVER THE INPUT: true; the input reads as it did. -/
def guardMustsSpec : ChangeSpec := { name := "guardMusts", fn := fun _ => fun
  | [d1, d2, d3] => { results := [.lit (.bool true)], args := [d1, d2, d3] }
  | _ => none }
def guardMustsRow : OpenClaim := { program := "ytekijelmdajhlaa", sum := "b45f8b9a02e48ca68fd5f8b602727a4bd5dede3bfd2e3433671ff4de0aabbdd2", func := "reservoir/reservoirlaw1.GuardMusts", spec := "guardMusts", unfollowed := true, recurses := true, apart := false }
def GuardMustsSaid : Prop := guardMustsRow.holds Try.pinned (OpenSpec.ofChange guardMustsSpec)

/-- ITS FALSE NEIGHBOUR: 'it returns false'. Refute it at one input. -/
def guardMustsWrong : ChangeSpec := { name := "guardMusts", fn := fun _ => fun
  | [d1, d2, d3] => { results := [.lit (.bool false)], args := [d1, d2, d3] }
  | _ => none }
def GuardMustsWrongFalsely : Prop := guardMustsRow.holds Try.pinned (OpenSpec.ofChange guardMustsWrong)

/- THE SECOND FORM. 'bulk': how many values and letters a reading holds, each counted each time it is reached (what is shared counts as often as it is met; a slice's spare places count too). A statement '..UptoSaid' is the law's where the arguments, and the package variables that the reading takes, are together of bulk at most 1048576: NARROWER than '..Said'. Prove '..Said' where nothing that the law and all that it calls make is longer than what came in: it says more and counts as full. Else prove '..UptoSaid'. A law counts once. -/
mutual
def uptoBulk {H : Type} : DataW H → Nat
  | .lit (.string bytes) => bytes.length + 1
  | .lit _ => 1
  | .nil => 1
  | .ptr d => uptoBulk d + 1
  | .slice elems spare => uptoBulkAll elems + uptoBulkAll spare + 1
  | .agg parts => uptoBulkAll parts + 1
  | .iface _ d => uptoBulk d + 1
  | .map entries => uptoBulkEntries entries + 1
  | .held _ => 1
def uptoBulkAll {H : Type} : List (DataW H) → Nat
  | [] => 0
  | d :: r => uptoBulk d + uptoBulkAll r
def uptoBulkEntries {H : Type} : List (Lit × DataW H) → Nat
  | [] => 0
  | x :: r => uptoBulkEntry x + uptoBulkEntries r
def uptoBulkEntry {H : Type} : Lit × DataW H → Nat
  | (.string bytes, d) => bytes.length + uptoBulk d + 1
  | (_, d) => uptoBulk d + 1
 end
def uptoSmall : (H : Type) → List (DataW H) → Bool := fun _ ds => decide (uptoBulkAll ds ≤ 1048576)
def OpenSpec.upto (s : _root_.Go.ChangeSpec) : _root_.Go.OpenSpec := { _root_.Go.OpenSpec.ofChange s with cond := some uptoSmall }

/-- 'reservoirlaw1.GuardRuns', WHERE WHAT IT READS IS OF BULK AT MOST 1048576: true; the input reads as it did. -/
def guardRunsUptoRow : OpenClaim := { program := "ytekijelmdajhlaa", sum := "b45f8b9a02e48ca68fd5f8b602727a4bd5dede3bfd2e3433671ff4de0aabbdd2", func := "reservoir/reservoirlaw1.GuardRuns", spec := "guardRuns", unfollowed := true, recurses := true, apart := false, narrowed := true }
def GuardRunsUptoSaid : Prop := guardRunsUptoRow.holds Try.pinned (OpenSpec.upto guardRunsSpec)

/-- 'reservoirlaw1.GuardPlays', WHERE WHAT IT READS IS OF BULK AT MOST 1048576: true; the input reads as it did. -/
def guardPlaysUptoRow : OpenClaim := { program := "ytekijelmdajhlaa", sum := "b45f8b9a02e48ca68fd5f8b602727a4bd5dede3bfd2e3433671ff4de0aabbdd2", func := "reservoir/reservoirlaw1.GuardPlays", spec := "guardPlays", unfollowed := true, recurses := true, apart := false, narrowed := true }
def GuardPlaysUptoSaid : Prop := guardPlaysUptoRow.holds Try.pinned (OpenSpec.upto guardPlaysSpec)

/-- 'reservoirlaw1.GuardFirst', WHERE WHAT IT READS IS OF BULK AT MOST 1048576: true; the input reads as it did. -/
def guardFirstUptoRow : OpenClaim := { program := "ytekijelmdajhlaa", sum := "b45f8b9a02e48ca68fd5f8b602727a4bd5dede3bfd2e3433671ff4de0aabbdd2", func := "reservoir/reservoirlaw1.GuardFirst", spec := "guardFirst", unfollowed := true, recurses := true, apart := false, narrowed := true }
def GuardFirstUptoSaid : Prop := guardFirstUptoRow.holds Try.pinned (OpenSpec.upto guardFirstSpec)

/-- 'reservoirlaw1.GuardLast', WHERE WHAT IT READS IS OF BULK AT MOST 1048576: true; the input reads as it did. -/
def guardLastUptoRow : OpenClaim := { program := "ytekijelmdajhlaa", sum := "b45f8b9a02e48ca68fd5f8b602727a4bd5dede3bfd2e3433671ff4de0aabbdd2", func := "reservoir/reservoirlaw1.GuardLast", spec := "guardLast", unfollowed := true, recurses := true, apart := false, narrowed := true }
def GuardLastUptoSaid : Prop := guardLastUptoRow.holds Try.pinned (OpenSpec.upto guardLastSpec)

/-- 'reservoirlaw1.GuardNested', WHERE WHAT IT READS IS OF BULK AT MOST 1048576: true; the input reads as it did. -/
def guardNestedUptoRow : OpenClaim := { program := "ytekijelmdajhlaa", sum := "b45f8b9a02e48ca68fd5f8b602727a4bd5dede3bfd2e3433671ff4de0aabbdd2", func := "reservoir/reservoirlaw1.GuardNested", spec := "guardNested", unfollowed := true, recurses := true, apart := false, narrowed := true }
def GuardNestedUptoSaid : Prop := guardNestedUptoRow.holds Try.pinned (OpenSpec.upto guardNestedSpec)

/-- 'reservoirlaw1.GuardMusts', WHERE WHAT IT READS IS OF BULK AT MOST 1048576: true; the input reads as it did. -/
def guardMustsUptoRow : OpenClaim := { program := "ytekijelmdajhlaa", sum := "b45f8b9a02e48ca68fd5f8b602727a4bd5dede3bfd2e3433671ff4de0aabbdd2", func := "reservoir/reservoirlaw1.GuardMusts", spec := "guardMusts", unfollowed := true, recurses := true, apart := false, narrowed := true }
def GuardMustsUptoSaid : Prop := guardMustsUptoRow.holds Try.pinned (OpenSpec.upto guardMustsSpec)

end Rows
end Go.Proofs.Ytekijelmdajhlaa
