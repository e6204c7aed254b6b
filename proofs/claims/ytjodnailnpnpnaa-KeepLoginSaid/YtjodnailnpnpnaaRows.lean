/-
  No cell of these rows narrows 'for every input' (looked for: loops, veiled, ifaces, maps, wideKeys, modest, calm, conditions, laid).
  DERIVED. THE GIVEN ROWS OF THIS SEAT. 5 by the template 'for every input the law returns true; each argument reads behind the call as it read before'; 0 by the template 'total and deterministic' (their statements: YtjodnailnpnpnaaTotals.lean).
  GIVEN WITH THE SEED: the statements are not yours to turn. If you find one false, say at which input.
  Laid BY PROGRAM, IN A SANDBOX (cutbox-rows.mjs): the forced cells as the released guide's own fill.sh prints them over the translation 79fd1d733c106378… (all of the seat's roots in one cut). By AI agents, Wed Nov 11 2026. No macro, syntax, notation, axiom, sorry.
-/
import Derived.Test.YtjodnailnpnpnaaChecked
import GoSem.Claim
import GoSem.ClaimJoined
import GoSem.ClaimMapViews
import Derived.JoinedTies
import Derived.KernelRfl
namespace Go.Proofs.Ytjodnailnpnpnaa
/- THE CELL 'sum', in the pinned program and in every row, IS THE sha256 OF THE DUMP (.gsa) THAT YtjodnailnpnpnaaProg.lean LOADS. Nothing in Lean hashes anything: it is a label: what it is worth is what the hold of that sum in a sandbox is worth. -/
noncomputable def Try.pinned : Pinned := { name := "ytjodnailnpnpnaa", sum := "79fd1d733c106378b72b10c7df802c038fe6149c0f5e7588904676a43af036f2", checked := Try.checked }
namespace Rows
def none {H : Type} : Left H := { results := [], args := [] }

/-- 'reservoirlaw18.KeepRuns': WHATEVER THE INPUT: true; the input reads as it did. -/
def keepRunsSpec : ChangeSpec := { name := "keepRuns", fn := fun _ => fun
  | [] => { results := [.lit (.bool true)], args := [] }
  | _ => none }
def keepRunsRow : OpenClaim := { program := "ytjodnailnpnpnaa", sum := "79fd1d733c106378b72b10c7df802c038fe6149c0f5e7588904676a43af036f2", func := "reservoir/reservoirlaw18.KeepRuns", spec := "keepRuns", unfollowed := true, recurses := true, apart := false }
def KeepRunsSaid : Prop := keepRunsRow.holds Try.pinned (OpenSpec.ofChange keepRunsSpec)

/-- ITS FALSE NEIGHBOUR: 'it returns false'. Refute it at one input. -/
def keepRunsWrong : ChangeSpec := { name := "keepRuns", fn := fun _ => fun
  | [] => { results := [.lit (.bool false)], args := [] }
  | _ => none }
def KeepRunsWrongFalsely : Prop := keepRunsRow.holds Try.pinned (OpenSpec.ofChange keepRunsWrong)

/-- 'reservoirlaw18.KeepNever': WHATEVER THE INPUT: true; the input reads as it did. -/
def keepNeverSpec : ChangeSpec := { name := "keepNever", fn := fun _ => fun
  | [d1, d2, d3, d4] => { results := [.lit (.bool true)], args := [d1, d2, d3, d4] }
  | _ => none }
def keepNeverRow : OpenClaim := { program := "ytjodnailnpnpnaa", sum := "79fd1d733c106378b72b10c7df802c038fe6149c0f5e7588904676a43af036f2", func := "reservoir/reservoirlaw18.KeepNever", spec := "keepNever", unfollowed := true, recurses := true, apart := false }
def KeepNeverSaid : Prop := keepNeverRow.holds Try.pinned (OpenSpec.ofChange keepNeverSpec)

/-- ITS FALSE NEIGHBOUR: 'it returns false'. Refute it at one input. -/
def keepNeverWrong : ChangeSpec := { name := "keepNever", fn := fun _ => fun
  | [d1, d2, d3, d4] => { results := [.lit (.bool false)], args := [d1, d2, d3, d4] }
  | _ => none }
def KeepNeverWrongFalsely : Prop := keepNeverRow.holds Try.pinned (OpenSpec.ofChange keepNeverWrong)

/-- 'reservoirlaw18.KeepSays': WHATEVER THE INPUT: true; the input reads as it did. -/
def keepSaysSpec : ChangeSpec := { name := "keepSays", fn := fun _ => fun
  | [d1, d2, d3] => { results := [.lit (.bool true)], args := [d1, d2, d3] }
  | _ => none }
def keepSaysRow : OpenClaim := { program := "ytjodnailnpnpnaa", sum := "79fd1d733c106378b72b10c7df802c038fe6149c0f5e7588904676a43af036f2", func := "reservoir/reservoirlaw18.KeepSays", spec := "keepSays", unfollowed := true, recurses := true, apart := false }
def KeepSaysSaid : Prop := keepSaysRow.holds Try.pinned (OpenSpec.ofChange keepSaysSpec)

/-- ITS FALSE NEIGHBOUR: 'it returns false'. Refute it at one input. -/
def keepSaysWrong : ChangeSpec := { name := "keepSays", fn := fun _ => fun
  | [d1, d2, d3] => { results := [.lit (.bool false)], args := [d1, d2, d3] }
  | _ => none }
def KeepSaysWrongFalsely : Prop := keepSaysRow.holds Try.pinned (OpenSpec.ofChange keepSaysWrong)

/-- 'reservoirlaw18.KeepPlain': WHATEVER THE INPUT: true; the input reads as it did. -/
def keepPlainSpec : ChangeSpec := { name := "keepPlain", fn := fun _ => fun
  | [d] => { results := [.lit (.bool true)], args := [d] }
  | _ => none }
def keepPlainRow : OpenClaim := { program := "ytjodnailnpnpnaa", sum := "79fd1d733c106378b72b10c7df802c038fe6149c0f5e7588904676a43af036f2", func := "reservoir/reservoirlaw18.KeepPlain", spec := "keepPlain", unfollowed := true, recurses := true, apart := false }
def KeepPlainSaid : Prop := keepPlainRow.holds Try.pinned (OpenSpec.ofChange keepPlainSpec)

/-- ITS FALSE NEIGHBOUR: 'it returns false'. Refute it at one input. -/
def keepPlainWrong : ChangeSpec := { name := "keepPlain", fn := fun _ => fun
  | [d] => { results := [.lit (.bool false)], args := [d] }
  | _ => none }
def KeepPlainWrongFalsely : Prop := keepPlainRow.holds Try.pinned (OpenSpec.ofChange keepPlainWrong)

/-- 'reservoirlaw18.KeepLogin': WHATEVER THE INPUT: true; the input reads as it did. -/
def keepLoginSpec : ChangeSpec := { name := "keepLogin", fn := fun _ => fun
  | [d1, d2] => { results := [.lit (.bool true)], args := [d1, d2] }
  | _ => none }
def keepLoginRow : OpenClaim := { program := "ytjodnailnpnpnaa", sum := "79fd1d733c106378b72b10c7df802c038fe6149c0f5e7588904676a43af036f2", func := "reservoir/reservoirlaw18.KeepLogin", spec := "keepLogin", unfollowed := true, recurses := true, apart := false }
def KeepLoginSaid : Prop := keepLoginRow.holds Try.pinned (OpenSpec.ofChange keepLoginSpec)

/-- ITS FALSE NEIGHBOUR: 'it returns false'. Refute it at one input. -/
def keepLoginWrong : ChangeSpec := { name := "keepLogin", fn := fun _ => fun
  | [d1, d2] => { results := [.lit (.bool false)], args := [d1, d2] }
  | _ => none }
def KeepLoginWrongFalsely : Prop := keepLoginRow.holds Try.pinned (OpenSpec.ofChange keepLoginWrong)

/- THE SECOND FORM. 'bulk': how many values and letters a reading holds, each counted each time it is reached (what is shared counts as often as it is met; a slice's spare places count too). A statement '..UptoSaid' is the law's where the arguments, and the package variables that the reading takes, are together of bulk at most 1048576: NARROWER than '..Said'. Prove '..Said' where nothing that the law and all that it calls make is longer than what came in: it says more and counts as full. Else prove '..UptoSaid'. A law counts once. -/
mutual
def uptoBulk {H : Type} : DataW H → Nat
  | .lit (.string bytes) => bytes.length + 1
  | .lit _ => 1
  | .nil => 1
  | .ptr d => uptoBulk d + 1
  | .slice elems spare => uptoBulkAll elems + uptoBulkAll spare + 1
  | .agg parts => uptoBulkAll parts + 1
  | .iface _ d => uptoBulk d + 1
  | .map entries => uptoBulkEntries entries + 1
  | .held _ => 1
def uptoBulkAll {H : Type} : List (DataW H) → Nat
  | [] => 0
  | d :: r => uptoBulk d + uptoBulkAll r
def uptoBulkEntries {H : Type} : List (Lit × DataW H) → Nat
  | [] => 0
  | x :: r => uptoBulkEntry x + uptoBulkEntries r
def uptoBulkEntry {H : Type} : Lit × DataW H → Nat
  | (.string bytes, d) => bytes.length + uptoBulk d + 1
  | (_, d) => uptoBulk d + 1
 end
def uptoSmall : (H : Type) → List (DataW H) → Bool := fun _ ds => decide (uptoBulkAll ds ≤ 1048576)
def OpenSpec.upto (s : _root_.Go.ChangeSpec) : _root_.Go.OpenSpec := { _root_.Go.OpenSpec.ofChange s with cond := some uptoSmall }

/-- 'reservoirlaw18.KeepRuns', WHERE WHAT IT READS IS OF BULK AT MOST 1048576: true; the input reads as it did. -/
def keepRunsUptoRow : OpenClaim := { program := "ytjodnailnpnpnaa", sum := "79fd1d733c106378b72b10c7df802c038fe6149c0f5e7588904676a43af036f2", func := "reservoir/reservoirlaw18.KeepRuns", spec := "keepRuns", unfollowed := true, recurses := true, apart := false, narrowed := true }
def KeepRunsUptoSaid : Prop := keepRunsUptoRow.holds Try.pinned (OpenSpec.upto keepRunsSpec)

/-- 'reservoirlaw18.KeepNever', WHERE WHAT IT READS IS OF BULK AT MOST 1048576: true; the input reads as it did. -/
def keepNeverUptoRow : OpenClaim := { program := "ytjodnailnpnpnaa", sum := "79fd1d733c106378b72b10c7df802c038fe6149c0f5e7588904676a43af036f2", func := "reservoir/reservoirlaw18.KeepNever", spec := "keepNever", unfollowed := true, recurses := true, apart := false, narrowed := true }
def KeepNeverUptoSaid : Prop := keepNeverUptoRow.holds Try.pinned (OpenSpec.upto keepNeverSpec)

/-- 'reservoirlaw18.KeepSays', WHERE WHAT IT READS IS OF BULK AT MOST 1048576: true; the input reads as it did. -/
def keepSaysUptoRow : OpenClaim := { program := "ytjodnailnpnpnaa", sum := "79fd1d733c106378b72b10c7df802c038fe6149c0f5e7588904676a43af036f2", func := "reservoir/reservoirlaw18.KeepSays", spec := "keepSays", unfollowed := true, recurses := true, apart := false, narrowed := true }
def KeepSaysUptoSaid : Prop := keepSaysUptoRow.holds Try.pinned (OpenSpec.upto keepSaysSpec)

/-- 'reservoirlaw18.KeepPlain', WHERE WHAT IT READS IS OF BULK AT MOST 1048576: true; the input reads as it did. -/
def keepPlainUptoRow : OpenClaim := { program := "ytjodnailnpnpnaa", sum := "79fd1d733c106378b72b10c7df802c038fe6149c0f5e7588904676a43af036f2", func := "reservoir/reservoirlaw18.KeepPlain", spec := "keepPlain", unfollowed := true, recurses := true, apart := false, narrowed := true }
def KeepPlainUptoSaid : Prop := keepPlainUptoRow.holds Try.pinned (OpenSpec.upto keepPlainSpec)

/-- 'reservoirlaw18.KeepLogin', WHERE WHAT IT READS IS OF BULK AT MOST 1048576: true; the input reads as it did. -/
def keepLoginUptoRow : OpenClaim := { program := "ytjodnailnpnpnaa", sum := "79fd1d733c106378b72b10c7df802c038fe6149c0f5e7588904676a43af036f2", func := "reservoir/reservoirlaw18.KeepLogin", spec := "keepLogin", unfollowed := true, recurses := true, apart := false, narrowed := true }
def KeepLoginUptoSaid : Prop := keepLoginUptoRow.holds Try.pinned (OpenSpec.upto keepLoginSpec)

end Rows
end Go.Proofs.Ytjodnailnpnpnaa
