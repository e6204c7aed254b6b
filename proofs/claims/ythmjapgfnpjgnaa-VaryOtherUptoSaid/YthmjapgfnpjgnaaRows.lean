/-
  No cell of these rows narrows 'for every input' (looked for: loops, veiled, ifaces, maps, wideKeys, modest, calm, conditions, laid).
  DERIVED. THE GIVEN ROWS OF THIS SEAT. 5 by the template 'for every input the law returns true; each argument reads behind the call as it read before'; 0 by the template 'total and deterministic' (their statements: YthmjapgfnpjgnaaTotals.lean).
  GIVEN WITH THE SEED: the statements are not yours to turn. If you find one false, say at which input.
  Laid BY PROGRAM, IN A SANDBOX (cutbox-rows.mjs): the forced cells as the released guide's own fill.sh prints them over the translation 56d350bfdb45d990… (all of the seat's roots in one cut). By AI agents, Wed Nov 11 2026. No macro, syntax, notation, axiom, sorry.
-/
import Derived.Test.YthmjapgfnpjgnaaChecked
import GoSem.Claim
import GoSem.ClaimJoined
import GoSem.ClaimMapViews
import Derived.JoinedTies
import Derived.KernelRfl
namespace Go.Proofs.Ythmjapgfnpjgnaa
/- THE CELL 'sum', in the pinned program and in every row, IS THE sha256 OF THE DUMP (.gsa) THAT YthmjapgfnpjgnaaProg.lean LOADS. Nothing in Lean hashes anything: it is a label: what it is worth is what the hold of that sum in a sandbox is worth. -/
noncomputable def Try.pinned : Pinned := { name := "ythmjapgfnpjgnaa", sum := "56d350bfdb45d990f25a94515fb71eb45dc919ad432351b7f4d9bb59265c78b4", checked := Try.checked }
namespace Rows
def none {H : Type} : Left H := { results := [], args := [] }

/-- 'reservoirlaw20.VaryRuns': WHATEVER THE INPUT: true; the input reads as it did. -/
def varyRunsSpec : ChangeSpec := { name := "varyRuns", fn := fun _ => fun
  | [] => { results := [.lit (.bool true)], args := [] }
  | _ => none }
def varyRunsRow : OpenClaim := { program := "ythmjapgfnpjgnaa", sum := "56d350bfdb45d990f25a94515fb71eb45dc919ad432351b7f4d9bb59265c78b4", func := "reservoir/reservoirlaw20.VaryRuns", spec := "varyRuns", unfollowed := true, recurses := true, apart := false }
def VaryRunsSaid : Prop := varyRunsRow.holds Try.pinned (OpenSpec.ofChange varyRunsSpec)

/-- ITS FALSE NEIGHBOUR: 'it returns false'. Refute it at one input. -/
def varyRunsWrong : ChangeSpec := { name := "varyRuns", fn := fun _ => fun
  | [] => { results := [.lit (.bool false)], args := [] }
  | _ => none }
def VaryRunsWrongFalsely : Prop := varyRunsRow.holds Try.pinned (OpenSpec.ofChange varyRunsWrong)

/-- 'reservoirlaw20.VaryTells': WHATEVER THE INPUT: true; the input reads as it did. -/
def varyTellsSpec : ChangeSpec := { name := "varyTells", fn := fun _ => fun
  | [d1, d2] => { results := [.lit (.bool true)], args := [d1, d2] }
  | _ => none }
def varyTellsRow : OpenClaim := { program := "ythmjapgfnpjgnaa", sum := "56d350bfdb45d990f25a94515fb71eb45dc919ad432351b7f4d9bb59265c78b4", func := "reservoir/reservoirlaw20.VaryTells", spec := "varyTells", unfollowed := true, recurses := true, apart := false }
def VaryTellsSaid : Prop := varyTellsRow.holds Try.pinned (OpenSpec.ofChange varyTellsSpec)

/-- ITS FALSE NEIGHBOUR: 'it returns false'. Refute it at one input. -/
def varyTellsWrong : ChangeSpec := { name := "varyTells", fn := fun _ => fun
  | [d1, d2] => { results := [.lit (.bool false)], args := [d1, d2] }
  | _ => none }
def VaryTellsWrongFalsely : Prop := varyTellsRow.holds Try.pinned (OpenSpec.ofChange varyTellsWrong)

/-- 'reservoirlaw20.VaryOwn': WHATEVER THE INPUT: true; the input reads as it did. -/
def varyOwnSpec : ChangeSpec := { name := "varyOwn", fn := fun _ => fun
  | [d1, d2] => { results := [.lit (.bool true)], args := [d1, d2] }
  | _ => none }
def varyOwnRow : OpenClaim := { program := "ythmjapgfnpjgnaa", sum := "56d350bfdb45d990f25a94515fb71eb45dc919ad432351b7f4d9bb59265c78b4", func := "reservoir/reservoirlaw20.VaryOwn", spec := "varyOwn", unfollowed := true, recurses := true, apart := false }
def VaryOwnSaid : Prop := varyOwnRow.holds Try.pinned (OpenSpec.ofChange varyOwnSpec)

/-- ITS FALSE NEIGHBOUR: 'it returns false'. Refute it at one input. -/
def varyOwnWrong : ChangeSpec := { name := "varyOwn", fn := fun _ => fun
  | [d1, d2] => { results := [.lit (.bool false)], args := [d1, d2] }
  | _ => none }
def VaryOwnWrongFalsely : Prop := varyOwnRow.holds Try.pinned (OpenSpec.ofChange varyOwnWrong)

/-- 'reservoirlaw20.VaryOther': WHATEVER THE INPUT: true; the input reads as it did. -/
def varyOtherSpec : ChangeSpec := { name := "varyOther", fn := fun _ => fun
  | [d1, d2, d3, d4, d5] => { results := [.lit (.bool true)], args := [d1, d2, d3, d4, d5] }
  | _ => none }
def varyOtherRow : OpenClaim := { program := "ythmjapgfnpjgnaa", sum := "56d350bfdb45d990f25a94515fb71eb45dc919ad432351b7f4d9bb59265c78b4", func := "reservoir/reservoirlaw20.VaryOther", spec := "varyOther", unfollowed := true, recurses := true, apart := false }
def VaryOtherSaid : Prop := varyOtherRow.holds Try.pinned (OpenSpec.ofChange varyOtherSpec)

/-- ITS FALSE NEIGHBOUR: 'it returns false'. Refute it at one input. -/
def varyOtherWrong : ChangeSpec := { name := "varyOther", fn := fun _ => fun
  | [d1, d2, d3, d4, d5] => { results := [.lit (.bool false)], args := [d1, d2, d3, d4, d5] }
  | _ => none }
def VaryOtherWrongFalsely : Prop := varyOtherRow.holds Try.pinned (OpenSpec.ofChange varyOtherWrong)

/-- 'reservoirlaw20.VaryOrder': WHATEVER THE INPUT: true; the input reads as it did. -/
def varyOrderSpec : ChangeSpec := { name := "varyOrder", fn := fun _ => fun
  | [d1, d2] => { results := [.lit (.bool true)], args := [d1, d2] }
  | _ => none }
def varyOrderRow : OpenClaim := { program := "ythmjapgfnpjgnaa", sum := "56d350bfdb45d990f25a94515fb71eb45dc919ad432351b7f4d9bb59265c78b4", func := "reservoir/reservoirlaw20.VaryOrder", spec := "varyOrder", unfollowed := true, recurses := true, apart := false }
def VaryOrderSaid : Prop := varyOrderRow.holds Try.pinned (OpenSpec.ofChange varyOrderSpec)

/-- ITS FALSE NEIGHBOUR: 'it returns false'. Refute it at one input. -/
def varyOrderWrong : ChangeSpec := { name := "varyOrder", fn := fun _ => fun
  | [d1, d2] => { results := [.lit (.bool false)], args := [d1, d2] }
  | _ => none }
def VaryOrderWrongFalsely : Prop := varyOrderRow.holds Try.pinned (OpenSpec.ofChange varyOrderWrong)

/- THE SECOND FORM. 'bulk': how many values and letters a reading holds, each counted each time it is reached (what is shared counts as often as it is met; a slice's spare places count too). A statement '..UptoSaid' is the law's where the arguments, and the package variables that the reading takes, are together of bulk at most 1048576: NARROWER than '..Said'. Prove '..Said' where nothing that the law and all that it calls make is longer than what came in: it says more and counts as full. Else prove '..UptoSaid'. A law counts once. -/
mutual
def uptoBulk {H : Type} : DataW H → Nat
  | .lit (.string bytes) => bytes.length + 1
  | .lit _ => 1
  | .nil => 1
  | .ptr d => uptoBulk d + 1
  | .slice elems spare => uptoBulkAll elems + uptoBulkAll spare + 1
  | .agg parts => uptoBulkAll parts + 1
  | .iface _ d => uptoBulk d + 1
  | .map entries => uptoBulkEntries entries + 1
  | .held _ => 1
def uptoBulkAll {H : Type} : List (DataW H) → Nat
  | [] => 0
  | d :: r => uptoBulk d + uptoBulkAll r
def uptoBulkEntries {H : Type} : List (Lit × DataW H) → Nat
  | [] => 0
  | x :: r => uptoBulkEntry x + uptoBulkEntries r
def uptoBulkEntry {H : Type} : Lit × DataW H → Nat
  | (.string bytes, d) => bytes.length + uptoBulk d + 1
  | (_, d) => uptoBulk d + 1
 end
def uptoSmall : (H : Type) → List (DataW H) → Bool := fun _ ds => decide (uptoBulkAll ds ≤ 1048576)
def OpenSpec.upto (s : _root_.Go.ChangeSpec) : _root_.Go.OpenSpec := { _root_.Go.OpenSpec.ofChange s with cond := some uptoSmall }

/-- 'reservoirlaw20.VaryRuns', WHERE WHAT IT READS IS OF BULK AT MOST 1048576: true; the input reads as it did. -/
def varyRunsUptoRow : OpenClaim := { program := "ythmjapgfnpjgnaa", sum := "56d350bfdb45d990f25a94515fb71eb45dc919ad432351b7f4d9bb59265c78b4", func := "reservoir/reservoirlaw20.VaryRuns", spec := "varyRuns", unfollowed := true, recurses := true, apart := false, narrowed := true }
def VaryRunsUptoSaid : Prop := varyRunsUptoRow.holds Try.pinned (OpenSpec.upto varyRunsSpec)

/-- 'reservoirlaw20.VaryTells', WHERE WHAT IT READS IS OF BULK AT MOST 1048576: true; the input reads as it did. -/
def varyTellsUptoRow : OpenClaim := { program := "ythmjapgfnpjgnaa", sum := "56d350bfdb45d990f25a94515fb71eb45dc919ad432351b7f4d9bb59265c78b4", func := "reservoir/reservoirlaw20.VaryTells", spec := "varyTells", unfollowed := true, recurses := true, apart := false, narrowed := true }
def VaryTellsUptoSaid : Prop := varyTellsUptoRow.holds Try.pinned (OpenSpec.upto varyTellsSpec)

/-- 'reservoirlaw20.VaryOwn', WHERE WHAT IT READS IS OF BULK AT MOST 1048576: true; the input reads as it did. -/
def varyOwnUptoRow : OpenClaim := { program := "ythmjapgfnpjgnaa", sum := "56d350bfdb45d990f25a94515fb71eb45dc919ad432351b7f4d9bb59265c78b4", func := "reservoir/reservoirlaw20.VaryOwn", spec := "varyOwn", unfollowed := true, recurses := true, apart := false, narrowed := true }
def VaryOwnUptoSaid : Prop := varyOwnUptoRow.holds Try.pinned (OpenSpec.upto varyOwnSpec)

/-- 'reservoirlaw20.VaryOther', WHERE WHAT IT READS IS OF BULK AT MOST 1048576: true; the input reads as it did. -/
def varyOtherUptoRow : OpenClaim := { program := "ythmjapgfnpjgnaa", sum := "56d350bfdb45d990f25a94515fb71eb45dc919ad432351b7f4d9bb59265c78b4", func := "reservoir/reservoirlaw20.VaryOther", spec := "varyOther", unfollowed := true, recurses := true, apart := false, narrowed := true }
def VaryOtherUptoSaid : Prop := varyOtherUptoRow.holds Try.pinned (OpenSpec.upto varyOtherSpec)

/-- 'reservoirlaw20.VaryOrder', WHERE WHAT IT READS IS OF BULK AT MOST 1048576: true; the input reads as it did. -/
def varyOrderUptoRow : OpenClaim := { program := "ythmjapgfnpjgnaa", sum := "56d350bfdb45d990f25a94515fb71eb45dc919ad432351b7f4d9bb59265c78b4", func := "reservoir/reservoirlaw20.VaryOrder", spec := "varyOrder", unfollowed := true, recurses := true, apart := false, narrowed := true }
def VaryOrderUptoSaid : Prop := varyOrderUptoRow.holds Try.pinned (OpenSpec.upto varyOrderSpec)

end Rows
end Go.Proofs.Ythmjapgfnpjgnaa
