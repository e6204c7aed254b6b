/-
  No cell of these rows narrows 'for every input' (looked for: loops, veiled, ifaces, maps, wideKeys, modest, calm, conditions, laid).
  DERIVED. THE GIVEN ROWS OF THIS SEAT. 6 by the template 'for every input the law returns true; each argument reads behind the call as it read before'; 0 by the template 'total and deterministic' (their statements: YtlkinjlbaeigdaaTotals.lean).
  GIVEN WITH THE SEED: the statements are not yours to turn. If you find one false, say at which input.
  Laid BY PROGRAM, IN A SANDBOX (cutbox-rows.mjs): the forced cells as the released guide's own fill.sh prints them over the translation fe0a68248f2a642b… (all of the seat's roots in one cut). By AI agents, Wed Nov 11 2026. No macro, syntax, notation, axiom, sorry.
-/
import Derived.Test.YtlkinjlbaeigdaaChecked
import GoSem.Claim
import GoSem.ClaimJoined
import GoSem.ClaimMapViews
import Derived.JoinedTies
import Derived.KernelRfl
namespace Go.Proofs.Ytlkinjlbaeigdaa
/- THE CELL 'sum', in the pinned program and in every row, IS THE sha256 OF THE DUMP (.gsa) THAT YtlkinjlbaeigdaaProg.lean LOADS. Nothing in Lean hashes anything: it is a label: what it is worth is what the hold of that sum in a sandbox is worth. -/
noncomputable def Try.pinned : Pinned := { name := "ytlkinjlbaeigdaa", sum := "fe0a68248f2a642bc09396d792509f9edb3f6f7babefd906e9f9550d0c2bea52", checked := Try.checked }
namespace Rows
def none {H : Type} : Left H := { results := [], args := [] }

/-- 'reservoirlaw8.PackRuns': WHATEVER THE INPUT: true; the input reads as it did. -/
def packRunsSpec : ChangeSpec := { name := "packRuns", fn := fun _ => fun
  | [] => { results := [.lit (.bool true)], args := [] }
  | _ => none }
def packRunsRow : OpenClaim := { program := "ytlkinjlbaeigdaa", sum := "fe0a68248f2a642bc09396d792509f9edb3f6f7babefd906e9f9550d0c2bea52", func := "reservoir/reservoirlaw8.PackRuns", spec := "packRuns", apart := false }
def PackRunsSaid : Prop := packRunsRow.holds Try.pinned (OpenSpec.ofChange packRunsSpec)

/-- ITS FALSE NEIGHBOUR: 'it returns false'. Refute it at one input. -/
def packRunsWrong : ChangeSpec := { name := "packRuns", fn := fun _ => fun
  | [] => { results := [.lit (.bool false)], args := [] }
  | _ => none }
def PackRunsWrongFalsely : Prop := packRunsRow.holds Try.pinned (OpenSpec.ofChange packRunsWrong)

/-- 'reservoirlaw8.PackPlays': WHATEVER THE INPUT: true; the input reads as it did. -/
def packPlaysSpec : ChangeSpec := { name := "packPlays", fn := fun _ => fun
  | [d1, d2] => { results := [.lit (.bool true)], args := [d1, d2] }
  | _ => none }
def packPlaysRow : OpenClaim := { program := "ytlkinjlbaeigdaa", sum := "fe0a68248f2a642bc09396d792509f9edb3f6f7babefd906e9f9550d0c2bea52", func := "reservoir/reservoirlaw8.PackPlays", spec := "packPlays", apart := false }
def PackPlaysSaid : Prop := packPlaysRow.holds Try.pinned (OpenSpec.ofChange packPlaysSpec)

/-- ITS FALSE NEIGHBOUR: 'it returns false'. Refute it at one input. -/
def packPlaysWrong : ChangeSpec := { name := "packPlays", fn := fun _ => fun
  | [d1, d2] => { results := [.lit (.bool false)], args := [d1, d2] }
  | _ => none }
def PackPlaysWrongFalsely : Prop := packPlaysRow.holds Try.pinned (OpenSpec.ofChange packPlaysWrong)

/-- 'reservoirlaw8.PackBack': WHATEVER THE INPUT: true; the input reads as it did. -/
def packBackSpec : ChangeSpec := { name := "packBack", fn := fun _ => fun
  | [d] => { results := [.lit (.bool true)], args := [d] }
  | _ => none }
def packBackRow : OpenClaim := { program := "ytlkinjlbaeigdaa", sum := "fe0a68248f2a642bc09396d792509f9edb3f6f7babefd906e9f9550d0c2bea52", func := "reservoir/reservoirlaw8.PackBack", spec := "packBack", unfollowed := true, recurses := true, apart := false }
def PackBackSaid : Prop := packBackRow.holds Try.pinned (OpenSpec.ofChange packBackSpec)

/-- ITS FALSE NEIGHBOUR: 'it returns false'. Refute it at one input. -/
def packBackWrong : ChangeSpec := { name := "packBack", fn := fun _ => fun
  | [d] => { results := [.lit (.bool false)], args := [d] }
  | _ => none }
def PackBackWrongFalsely : Prop := packBackRow.holds Try.pinned (OpenSpec.ofChange packBackWrong)

/-- 'reservoirlaw8.PackShorter': WHATEVER THE INPUT: true; the input reads as it did. -/
def packShorterSpec : ChangeSpec := { name := "packShorter", fn := fun _ => fun
  | [d] => { results := [.lit (.bool true)], args := [d] }
  | _ => none }
def packShorterRow : OpenClaim := { program := "ytlkinjlbaeigdaa", sum := "fe0a68248f2a642bc09396d792509f9edb3f6f7babefd906e9f9550d0c2bea52", func := "reservoir/reservoirlaw8.PackShorter", spec := "packShorter", apart := false }
def PackShorterSaid : Prop := packShorterRow.holds Try.pinned (OpenSpec.ofChange packShorterSpec)

/-- ITS FALSE NEIGHBOUR: 'it returns false'. Refute it at one input. -/
def packShorterWrong : ChangeSpec := { name := "packShorter", fn := fun _ => fun
  | [d] => { results := [.lit (.bool false)], args := [d] }
  | _ => none }
def PackShorterWrongFalsely : Prop := packShorterRow.holds Try.pinned (OpenSpec.ofChange packShorterWrong)

/-- 'reservoirlaw8.PackSecret': WHATEVER THE INPUT: true; the input reads as it did. -/
def packSecretSpec : ChangeSpec := { name := "packSecret", fn := fun _ => fun
  | [d] => { results := [.lit (.bool true)], args := [d] }
  | _ => none }
def packSecretRow : OpenClaim := { program := "ytlkinjlbaeigdaa", sum := "fe0a68248f2a642bc09396d792509f9edb3f6f7babefd906e9f9550d0c2bea52", func := "reservoir/reservoirlaw8.PackSecret", spec := "packSecret", apart := false }
def PackSecretSaid : Prop := packSecretRow.holds Try.pinned (OpenSpec.ofChange packSecretSpec)

/-- ITS FALSE NEIGHBOUR: 'it returns false'. Refute it at one input. -/
def packSecretWrong : ChangeSpec := { name := "packSecret", fn := fun _ => fun
  | [d] => { results := [.lit (.bool false)], args := [d] }
  | _ => none }
def PackSecretWrongFalsely : Prop := packSecretRow.holds Try.pinned (OpenSpec.ofChange packSecretWrong)

/-- 'reservoirlaw8.PackBound': WHATEVER THE INPUT: true; the input reads as it did. -/
def packBoundSpec : ChangeSpec := { name := "packBound", fn := fun _ => fun
  | [d] => { results := [.lit (.bool true)], args := [d] }
  | _ => none }
def packBoundRow : OpenClaim := { program := "ytlkinjlbaeigdaa", sum := "fe0a68248f2a642bc09396d792509f9edb3f6f7babefd906e9f9550d0c2bea52", func := "reservoir/reservoirlaw8.PackBound", spec := "packBound", apart := false }
def PackBoundSaid : Prop := packBoundRow.holds Try.pinned (OpenSpec.ofChange packBoundSpec)

/-- ITS FALSE NEIGHBOUR: 'it returns false'. Refute it at one input. -/
def packBoundWrong : ChangeSpec := { name := "packBound", fn := fun _ => fun
  | [d] => { results := [.lit (.bool false)], args := [d] }
  | _ => none }
def PackBoundWrongFalsely : Prop := packBoundRow.holds Try.pinned (OpenSpec.ofChange packBoundWrong)

/- THE SECOND FORM. 'bulk': how many values and letters a reading holds, each counted each time it is reached (what is shared counts as often as it is met; a slice's spare places count too). A statement '..UptoSaid' is the law's where the arguments, and the package variables that the reading takes, are together of bulk at most 1048576: NARROWER than '..Said'. Prove '..Said' where nothing that the law and all that it calls make is longer than what came in: it says more and counts as full. Else prove '..UptoSaid'. A law counts once. -/
mutual
def uptoBulk {H : Type} : DataW H → Nat
  | .lit (.string bytes) => bytes.length + 1
  | .lit _ => 1
  | .nil => 1
  | .ptr d => uptoBulk d + 1
  | .slice elems spare => uptoBulkAll elems + uptoBulkAll spare + 1
  | .agg parts => uptoBulkAll parts + 1
  | .iface _ d => uptoBulk d + 1
  | .map entries => uptoBulkEntries entries + 1
  | .held _ => 1
def uptoBulkAll {H : Type} : List (DataW H) → Nat
  | [] => 0
  | d :: r => uptoBulk d + uptoBulkAll r
def uptoBulkEntries {H : Type} : List (Lit × DataW H) → Nat
  | [] => 0
  | x :: r => uptoBulkEntry x + uptoBulkEntries r
def uptoBulkEntry {H : Type} : Lit × DataW H → Nat
  | (.string bytes, d) => bytes.length + uptoBulk d + 1
  | (_, d) => uptoBulk d + 1
 end
def uptoSmall : (H : Type) → List (DataW H) → Bool := fun _ ds => decide (uptoBulkAll ds ≤ 1048576)
def OpenSpec.upto (s : _root_.Go.ChangeSpec) : _root_.Go.OpenSpec := { _root_.Go.OpenSpec.ofChange s with cond := some uptoSmall }

/-- 'reservoirlaw8.PackRuns', WHERE WHAT IT READS IS OF BULK AT MOST 1048576: true; the input reads as it did. -/
def packRunsUptoRow : OpenClaim := { program := "ytlkinjlbaeigdaa", sum := "fe0a68248f2a642bc09396d792509f9edb3f6f7babefd906e9f9550d0c2bea52", func := "reservoir/reservoirlaw8.PackRuns", spec := "packRuns", apart := false, narrowed := true }
def PackRunsUptoSaid : Prop := packRunsUptoRow.holds Try.pinned (OpenSpec.upto packRunsSpec)

/-- 'reservoirlaw8.PackPlays', WHERE WHAT IT READS IS OF BULK AT MOST 1048576: true; the input reads as it did. -/
def packPlaysUptoRow : OpenClaim := { program := "ytlkinjlbaeigdaa", sum := "fe0a68248f2a642bc09396d792509f9edb3f6f7babefd906e9f9550d0c2bea52", func := "reservoir/reservoirlaw8.PackPlays", spec := "packPlays", apart := false, narrowed := true }
def PackPlaysUptoSaid : Prop := packPlaysUptoRow.holds Try.pinned (OpenSpec.upto packPlaysSpec)

/-- 'reservoirlaw8.PackBack', WHERE WHAT IT READS IS OF BULK AT MOST 1048576: true; the input reads as it did. -/
def packBackUptoRow : OpenClaim := { program := "ytlkinjlbaeigdaa", sum := "fe0a68248f2a642bc09396d792509f9edb3f6f7babefd906e9f9550d0c2bea52", func := "reservoir/reservoirlaw8.PackBack", spec := "packBack", unfollowed := true, recurses := true, apart := false, narrowed := true }
def PackBackUptoSaid : Prop := packBackUptoRow.holds Try.pinned (OpenSpec.upto packBackSpec)

/-- 'reservoirlaw8.PackShorter', WHERE WHAT IT READS IS OF BULK AT MOST 1048576: true; the input reads as it did. -/
def packShorterUptoRow : OpenClaim := { program := "ytlkinjlbaeigdaa", sum := "fe0a68248f2a642bc09396d792509f9edb3f6f7babefd906e9f9550d0c2bea52", func := "reservoir/reservoirlaw8.PackShorter", spec := "packShorter", apart := false, narrowed := true }
def PackShorterUptoSaid : Prop := packShorterUptoRow.holds Try.pinned (OpenSpec.upto packShorterSpec)

/-- 'reservoirlaw8.PackSecret', WHERE WHAT IT READS IS OF BULK AT MOST 1048576: true; the input reads as it did. -/
def packSecretUptoRow : OpenClaim := { program := "ytlkinjlbaeigdaa", sum := "fe0a68248f2a642bc09396d792509f9edb3f6f7babefd906e9f9550d0c2bea52", func := "reservoir/reservoirlaw8.PackSecret", spec := "packSecret", apart := false, narrowed := true }
def PackSecretUptoSaid : Prop := packSecretUptoRow.holds Try.pinned (OpenSpec.upto packSecretSpec)

/-- 'reservoirlaw8.PackBound', WHERE WHAT IT READS IS OF BULK AT MOST 1048576: true; the input reads as it did. -/
def packBoundUptoRow : OpenClaim := { program := "ytlkinjlbaeigdaa", sum := "fe0a68248f2a642bc09396d792509f9edb3f6f7babefd906e9f9550d0c2bea52", func := "reservoir/reservoirlaw8.PackBound", spec := "packBound", apart := false, narrowed := true }
def PackBoundUptoSaid : Prop := packBoundUptoRow.holds Try.pinned (OpenSpec.upto packBoundSpec)

end Rows
end Go.Proofs.Ytlkinjlbaeigdaa
