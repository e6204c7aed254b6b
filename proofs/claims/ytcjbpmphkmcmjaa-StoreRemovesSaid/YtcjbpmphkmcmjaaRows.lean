/-
  No cell of these rows narrows 'for every input' (looked for: loops, veiled, ifaces, maps, wideKeys, modest, calm, conditions, laid).
  DERIVED. THE GIVEN ROWS OF THIS SEAT. 6 by the template 'for every input the law returns true; each argument reads behind the call as it read before'; 0 by the template 'total and deterministic' (their statements: YtcjbpmphkmcmjaaTotals.lean).
  GIVEN WITH THE SEED: the statements are not yours to turn. If you find one false, say at which input.
  Laid BY PROGRAM, IN A SANDBOX (cutbox-rows.mjs): the forced cells as the released guide's own fill.sh prints them over the translation 5ad7ec2fe8dd73d5… (all of the seat's roots in one cut). By AI agents, Wed Nov 11 2026. No macro, syntax, notation, axiom, sorry.
-/
import Derived.Test.YtcjbpmphkmcmjaaChecked
import GoSem.Claim
import GoSem.ClaimJoined
import GoSem.ClaimMapViews
import Derived.JoinedTies
import Derived.KernelRfl
namespace Go.Proofs.Ytcjbpmphkmcmjaa
/- THE CELL 'sum', in the pinned program and in every row, IS THE sha256 OF THE DUMP (.gsa) THAT YtcjbpmphkmcmjaaProg.lean LOADS. Nothing in Lean hashes anything: it is a label: what it is worth is what the hold of that sum in a sandbox is worth. -/
noncomputable def Try.pinned : Pinned := { name := "ytcjbpmphkmcmjaa", sum := "5ad7ec2fe8dd73d5d8213c95c80ed2f9171b206bb71e2bb3bc54060a0c685f6e", checked := Try.checked }
namespace Rows
def none {H : Type} : Left H := { results := [], args := [] }

/-- 'reservoirlaw23.StoreRuns': WHATEVER THE INPUT: true; the input reads as it did. -/
def storeRunsSpec : ChangeSpec := { name := "storeRuns", fn := fun _ => fun
  | [] => { results := [.lit (.bool true)], args := [] }
  | _ => none }
def storeRunsRow : OpenClaim := { program := "ytcjbpmphkmcmjaa", sum := "5ad7ec2fe8dd73d5d8213c95c80ed2f9171b206bb71e2bb3bc54060a0c685f6e", func := "reservoir/reservoirlaw23.StoreRuns", spec := "storeRuns", unfollowed := true, recurses := true, apart := false }
def StoreRunsSaid : Prop := storeRunsRow.holds Try.pinned (OpenSpec.ofChange storeRunsSpec)

/-- ITS FALSE NEIGHBOUR: 'it returns false'. Refute it at one input. -/
def storeRunsWrong : ChangeSpec := { name := "storeRuns", fn := fun _ => fun
  | [] => { results := [.lit (.bool false)], args := [] }
  | _ => none }
def StoreRunsWrongFalsely : Prop := storeRunsRow.holds Try.pinned (OpenSpec.ofChange storeRunsWrong)

/-- 'reservoirlaw23.StorePlays': WHATEVER THE INPUT: true; the input reads as it did. -/
def storePlaysSpec : ChangeSpec := { name := "storePlays", fn := fun _ => fun
  | [d1, d2] => { results := [.lit (.bool true)], args := [d1, d2] }
  | _ => none }
def storePlaysRow : OpenClaim := { program := "ytcjbpmphkmcmjaa", sum := "5ad7ec2fe8dd73d5d8213c95c80ed2f9171b206bb71e2bb3bc54060a0c685f6e", func := "reservoir/reservoirlaw23.StorePlays", spec := "storePlays", unfollowed := true, recurses := true, apart := false }
def StorePlaysSaid : Prop := storePlaysRow.holds Try.pinned (OpenSpec.ofChange storePlaysSpec)

/-- ITS FALSE NEIGHBOUR: 'it returns false'. Refute it at one input. -/
def storePlaysWrong : ChangeSpec := { name := "storePlays", fn := fun _ => fun
  | [d1, d2] => { results := [.lit (.bool false)], args := [d1, d2] }
  | _ => none }
def StorePlaysWrongFalsely : Prop := storePlaysRow.holds Try.pinned (OpenSpec.ofChange storePlaysWrong)

/-- 'reservoirlaw23.StoreBounded': WHATEVER THE INPUT: true; the input reads as it did. -/
def storeBoundedSpec : ChangeSpec := { name := "storeBounded", fn := fun _ => fun
  | [d1, d2] => { results := [.lit (.bool true)], args := [d1, d2] }
  | _ => none }
def storeBoundedRow : OpenClaim := { program := "ytcjbpmphkmcmjaa", sum := "5ad7ec2fe8dd73d5d8213c95c80ed2f9171b206bb71e2bb3bc54060a0c685f6e", func := "reservoir/reservoirlaw23.StoreBounded", spec := "storeBounded", unfollowed := true, recurses := true, apart := false }
def StoreBoundedSaid : Prop := storeBoundedRow.holds Try.pinned (OpenSpec.ofChange storeBoundedSpec)

/-- ITS FALSE NEIGHBOUR: 'it returns false'. Refute it at one input. -/
def storeBoundedWrong : ChangeSpec := { name := "storeBounded", fn := fun _ => fun
  | [d1, d2] => { results := [.lit (.bool false)], args := [d1, d2] }
  | _ => none }
def StoreBoundedWrongFalsely : Prop := storeBoundedRow.holds Try.pinned (OpenSpec.ofChange storeBoundedWrong)

/-- 'reservoirlaw23.StoreOldest': WHATEVER THE INPUT: true; the input reads as it did. -/
def storeOldestSpec : ChangeSpec := { name := "storeOldest", fn := fun _ => fun
  | [d1, d2] => { results := [.lit (.bool true)], args := [d1, d2] }
  | _ => none }
def storeOldestRow : OpenClaim := { program := "ytcjbpmphkmcmjaa", sum := "5ad7ec2fe8dd73d5d8213c95c80ed2f9171b206bb71e2bb3bc54060a0c685f6e", func := "reservoir/reservoirlaw23.StoreOldest", spec := "storeOldest", unfollowed := true, recurses := true, apart := false }
def StoreOldestSaid : Prop := storeOldestRow.holds Try.pinned (OpenSpec.ofChange storeOldestSpec)

/-- ITS FALSE NEIGHBOUR: 'it returns false'. Refute it at one input. -/
def storeOldestWrong : ChangeSpec := { name := "storeOldest", fn := fun _ => fun
  | [d1, d2] => { results := [.lit (.bool false)], args := [d1, d2] }
  | _ => none }
def StoreOldestWrongFalsely : Prop := storeOldestRow.holds Try.pinned (OpenSpec.ofChange storeOldestWrong)

/-- 'reservoirlaw23.StoreRemoves': WHATEVER THE INPUT: true; the input reads as it did. -/
def storeRemovesSpec : ChangeSpec := { name := "storeRemoves", fn := fun _ => fun
  | [d1, d2] => { results := [.lit (.bool true)], args := [d1, d2] }
  | _ => none }
def storeRemovesRow : OpenClaim := { program := "ytcjbpmphkmcmjaa", sum := "5ad7ec2fe8dd73d5d8213c95c80ed2f9171b206bb71e2bb3bc54060a0c685f6e", func := "reservoir/reservoirlaw23.StoreRemoves", spec := "storeRemoves", unfollowed := true, recurses := true, apart := false }
def StoreRemovesSaid : Prop := storeRemovesRow.holds Try.pinned (OpenSpec.ofChange storeRemovesSpec)

/-- ITS FALSE NEIGHBOUR: 'it returns false'. Refute it at one input. -/
def storeRemovesWrong : ChangeSpec := { name := "storeRemoves", fn := fun _ => fun
  | [d1, d2] => { results := [.lit (.bool false)], args := [d1, d2] }
  | _ => none }
def StoreRemovesWrongFalsely : Prop := storeRemovesRow.holds Try.pinned (OpenSpec.ofChange storeRemovesWrong)

/-- 'reservoirlaw23.StoreTouch': WHATEVER THE INPUT: true; the input reads as it did. -/
def storeTouchSpec : ChangeSpec := { name := "storeTouch", fn := fun _ => fun
  | [d1, d2, d3] => { results := [.lit (.bool true)], args := [d1, d2, d3] }
  | _ => none }
def storeTouchRow : OpenClaim := { program := "ytcjbpmphkmcmjaa", sum := "5ad7ec2fe8dd73d5d8213c95c80ed2f9171b206bb71e2bb3bc54060a0c685f6e", func := "reservoir/reservoirlaw23.StoreTouch", spec := "storeTouch", unfollowed := true, recurses := true, apart := false }
def StoreTouchSaid : Prop := storeTouchRow.holds Try.pinned (OpenSpec.ofChange storeTouchSpec)

/-- ITS FALSE NEIGHBOUR: 'it returns false'. Refute it at one input. -/
def storeTouchWrong : ChangeSpec := { name := "storeTouch", fn := fun _ => fun
  | [d1, d2, d3] => { results := [.lit (.bool false)], args := [d1, d2, d3] }
  | _ => none }
def StoreTouchWrongFalsely : Prop := storeTouchRow.holds Try.pinned (OpenSpec.ofChange storeTouchWrong)

/- THE SECOND FORM. 'bulk': how many values and letters a reading holds, each counted each time it is reached (what is shared counts as often as it is met; a slice's spare places count too). A statement '..UptoSaid' is the law's where the arguments, and the package variables that the reading takes, are together of bulk at most 1048576: NARROWER than '..Said'. Prove '..Said' where nothing that the law and all that it calls make is longer than what came in: it says more and counts as full. Else prove '..UptoSaid'. A law counts once. -/
mutual
def uptoBulk {H : Type} : DataW H → Nat
  | .lit (.string bytes) => bytes.length + 1
  | .lit _ => 1
  | .nil => 1
  | .ptr d => uptoBulk d + 1
  | .slice elems spare => uptoBulkAll elems + uptoBulkAll spare + 1
  | .agg parts => uptoBulkAll parts + 1
  | .iface _ d => uptoBulk d + 1
  | .map entries => uptoBulkEntries entries + 1
  | .held _ => 1
def uptoBulkAll {H : Type} : List (DataW H) → Nat
  | [] => 0
  | d :: r => uptoBulk d + uptoBulkAll r
def uptoBulkEntries {H : Type} : List (Lit × DataW H) → Nat
  | [] => 0
  | x :: r => uptoBulkEntry x + uptoBulkEntries r
def uptoBulkEntry {H : Type} : Lit × DataW H → Nat
  | (.string bytes, d) => bytes.length + uptoBulk d + 1
  | (_, d) => uptoBulk d + 1
 end
def uptoSmall : (H : Type) → List (DataW H) → Bool := fun _ ds => decide (uptoBulkAll ds ≤ 1048576)
def OpenSpec.upto (s : _root_.Go.ChangeSpec) : _root_.Go.OpenSpec := { _root_.Go.OpenSpec.ofChange s with cond := some uptoSmall }

/-- 'reservoirlaw23.StoreRuns', WHERE WHAT IT READS IS OF BULK AT MOST 1048576: true; the input reads as it did. -/
def storeRunsUptoRow : OpenClaim := { program := "ytcjbpmphkmcmjaa", sum := "5ad7ec2fe8dd73d5d8213c95c80ed2f9171b206bb71e2bb3bc54060a0c685f6e", func := "reservoir/reservoirlaw23.StoreRuns", spec := "storeRuns", unfollowed := true, recurses := true, apart := false, narrowed := true }
def StoreRunsUptoSaid : Prop := storeRunsUptoRow.holds Try.pinned (OpenSpec.upto storeRunsSpec)

/-- 'reservoirlaw23.StorePlays', WHERE WHAT IT READS IS OF BULK AT MOST 1048576: true; the input reads as it did. -/
def storePlaysUptoRow : OpenClaim := { program := "ytcjbpmphkmcmjaa", sum := "5ad7ec2fe8dd73d5d8213c95c80ed2f9171b206bb71e2bb3bc54060a0c685f6e", func := "reservoir/reservoirlaw23.StorePlays", spec := "storePlays", unfollowed := true, recurses := true, apart := false, narrowed := true }
def StorePlaysUptoSaid : Prop := storePlaysUptoRow.holds Try.pinned (OpenSpec.upto storePlaysSpec)

/-- 'reservoirlaw23.StoreBounded', WHERE WHAT IT READS IS OF BULK AT MOST 1048576: true; the input reads as it did. -/
def storeBoundedUptoRow : OpenClaim := { program := "ytcjbpmphkmcmjaa", sum := "5ad7ec2fe8dd73d5d8213c95c80ed2f9171b206bb71e2bb3bc54060a0c685f6e", func := "reservoir/reservoirlaw23.StoreBounded", spec := "storeBounded", unfollowed := true, recurses := true, apart := false, narrowed := true }
def StoreBoundedUptoSaid : Prop := storeBoundedUptoRow.holds Try.pinned (OpenSpec.upto storeBoundedSpec)

/-- 'reservoirlaw23.StoreOldest', WHERE WHAT IT READS IS OF BULK AT MOST 1048576: true; the input reads as it did. -/
def storeOldestUptoRow : OpenClaim := { program := "ytcjbpmphkmcmjaa", sum := "5ad7ec2fe8dd73d5d8213c95c80ed2f9171b206bb71e2bb3bc54060a0c685f6e", func := "reservoir/reservoirlaw23.StoreOldest", spec := "storeOldest", unfollowed := true, recurses := true, apart := false, narrowed := true }
def StoreOldestUptoSaid : Prop := storeOldestUptoRow.holds Try.pinned (OpenSpec.upto storeOldestSpec)

/-- 'reservoirlaw23.StoreRemoves', WHERE WHAT IT READS IS OF BULK AT MOST 1048576: true; the input reads as it did. -/
def storeRemovesUptoRow : OpenClaim := { program := "ytcjbpmphkmcmjaa", sum := "5ad7ec2fe8dd73d5d8213c95c80ed2f9171b206bb71e2bb3bc54060a0c685f6e", func := "reservoir/reservoirlaw23.StoreRemoves", spec := "storeRemoves", unfollowed := true, recurses := true, apart := false, narrowed := true }
def StoreRemovesUptoSaid : Prop := storeRemovesUptoRow.holds Try.pinned (OpenSpec.upto storeRemovesSpec)

/-- 'reservoirlaw23.StoreTouch', WHERE WHAT IT READS IS OF BULK AT MOST 1048576: true; the input reads as it did. -/
def storeTouchUptoRow : OpenClaim := { program := "ytcjbpmphkmcmjaa", sum := "5ad7ec2fe8dd73d5d8213c95c80ed2f9171b206bb71e2bb3bc54060a0c685f6e", func := "reservoir/reservoirlaw23.StoreTouch", spec := "storeTouch", unfollowed := true, recurses := true, apart := false, narrowed := true }
def StoreTouchUptoSaid : Prop := storeTouchUptoRow.holds Try.pinned (OpenSpec.upto storeTouchSpec)

end Rows
end Go.Proofs.Ytcjbpmphkmcmjaa
