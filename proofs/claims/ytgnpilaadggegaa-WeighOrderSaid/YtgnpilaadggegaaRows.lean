/-
  No cell of these rows narrows 'for every input' (looked for: loops, veiled, ifaces, maps, wideKeys, modest, calm, conditions, laid).
  DERIVED. THE GIVEN ROWS OF THIS SEAT. 9 by the template 'for every input the law returns true; each argument reads behind the call as it read before'; 0 by the template 'total and deterministic' (their statements: YtgnpilaadggegaaTotals.lean).
  GIVEN WITH THE SEED: the statements are not yours to turn. If you find one false, say at which input.
  Laid BY PROGRAM, IN A SANDBOX (cutbox-rows.mjs): the forced cells as the released guide's own fill.sh prints them over the translation 31a1245ee95be46a… (all of the seat's roots in one cut). By AI agents, Wed Nov 11 2026. No macro, syntax, notation, axiom, sorry.
-/
import Derived.Test.YtgnpilaadggegaaChecked
import GoSem.Claim
import GoSem.ClaimJoined
import GoSem.ClaimMapViews
import Derived.JoinedTies
import Derived.KernelRfl
namespace Go.Proofs.Ytgnpilaadggegaa
/- THE CELL 'sum', in the pinned program and in every row, IS THE sha256 OF THE DUMP (.gsa) THAT YtgnpilaadggegaaProg.lean LOADS. Nothing in Lean hashes anything: it is a label: what it is worth is what the hold of that sum in a sandbox is worth. -/
noncomputable def Try.pinned : Pinned := { name := "ytgnpilaadggegaa", sum := "31a1245ee95be46a342e081dbbbdf22fde21f9d73aebc87bf89e05ae88ccded4", checked := Try.checked }
namespace Rows
def none {H : Type} : Left H := { results := [], args := [] }

/-- 'reservoirlaw2.WeighRuns': WHATEVER THE INPUT: true; the input reads as it did. -/
def weighRunsSpec : ChangeSpec := { name := "weighRuns", fn := fun _ => fun
  | [] => { results := [.lit (.bool true)], args := [] }
  | _ => none }
def weighRunsRow : OpenClaim := { program := "ytgnpilaadggegaa", sum := "31a1245ee95be46a342e081dbbbdf22fde21f9d73aebc87bf89e05ae88ccded4", func := "reservoir/reservoirlaw2.WeighRuns", spec := "weighRuns", apart := false }
def WeighRunsSaid : Prop := weighRunsRow.holds Try.pinned (OpenSpec.ofChange weighRunsSpec)

/-- ITS FALSE NEIGHBOUR: 'it returns false'. Refute it at one input. -/
def weighRunsWrong : ChangeSpec := { name := "weighRuns", fn := fun _ => fun
  | [] => { results := [.lit (.bool false)], args := [] }
  | _ => none }
def WeighRunsWrongFalsely : Prop := weighRunsRow.holds Try.pinned (OpenSpec.ofChange weighRunsWrong)

/-- 'reservoirlaw2.WeighTells': WHATEVER THE INPUT: true; the input reads as it did. -/
def weighTellsSpec : ChangeSpec := { name := "weighTells", fn := fun _ => fun
  | [d1, d2, d3] => { results := [.lit (.bool true)], args := [d1, d2, d3] }
  | _ => none }
def weighTellsRow : OpenClaim := { program := "ytgnpilaadggegaa", sum := "31a1245ee95be46a342e081dbbbdf22fde21f9d73aebc87bf89e05ae88ccded4", func := "reservoir/reservoirlaw2.WeighTells", spec := "weighTells", apart := false }
def WeighTellsSaid : Prop := weighTellsRow.holds Try.pinned (OpenSpec.ofChange weighTellsSpec)

/-- ITS FALSE NEIGHBOUR: 'it returns false'. Refute it at one input. -/
def weighTellsWrong : ChangeSpec := { name := "weighTells", fn := fun _ => fun
  | [d1, d2, d3] => { results := [.lit (.bool false)], args := [d1, d2, d3] }
  | _ => none }
def WeighTellsWrongFalsely : Prop := weighTellsRow.holds Try.pinned (OpenSpec.ofChange weighTellsWrong)

/-- 'reservoirlaw2.WeighReads': WHATEVER THE INPUT: true; the input reads as it did. -/
def weighReadsSpec : ChangeSpec := { name := "weighReads", fn := fun _ => fun
  | [d] => { results := [.lit (.bool true)], args := [d] }
  | _ => none }
def weighReadsRow : OpenClaim := { program := "ytgnpilaadggegaa", sum := "31a1245ee95be46a342e081dbbbdf22fde21f9d73aebc87bf89e05ae88ccded4", func := "reservoir/reservoirlaw2.WeighReads", spec := "weighReads", apart := false }
def WeighReadsSaid : Prop := weighReadsRow.holds Try.pinned (OpenSpec.ofChange weighReadsSpec)

/-- ITS FALSE NEIGHBOUR: 'it returns false'. Refute it at one input. -/
def weighReadsWrong : ChangeSpec := { name := "weighReads", fn := fun _ => fun
  | [d] => { results := [.lit (.bool false)], args := [d] }
  | _ => none }
def WeighReadsWrongFalsely : Prop := weighReadsRow.holds Try.pinned (OpenSpec.ofChange weighReadsWrong)

/-- 'reservoirlaw2.WeighOrder': WHATEVER THE INPUT: true; the input reads as it did. -/
def weighOrderSpec : ChangeSpec := { name := "weighOrder", fn := fun _ => fun
  | [d1, d2, d3, d4] => { results := [.lit (.bool true)], args := [d1, d2, d3, d4] }
  | _ => none }
def weighOrderRow : OpenClaim := { program := "ytgnpilaadggegaa", sum := "31a1245ee95be46a342e081dbbbdf22fde21f9d73aebc87bf89e05ae88ccded4", func := "reservoir/reservoirlaw2.WeighOrder", spec := "weighOrder", apart := false }
def WeighOrderSaid : Prop := weighOrderRow.holds Try.pinned (OpenSpec.ofChange weighOrderSpec)

/-- ITS FALSE NEIGHBOUR: 'it returns false'. Refute it at one input. -/
def weighOrderWrong : ChangeSpec := { name := "weighOrder", fn := fun _ => fun
  | [d1, d2, d3, d4] => { results := [.lit (.bool false)], args := [d1, d2, d3, d4] }
  | _ => none }
def WeighOrderWrongFalsely : Prop := weighOrderRow.holds Try.pinned (OpenSpec.ofChange weighOrderWrong)

/-- 'reservoirlaw2.WeighBest': WHATEVER THE INPUT: true; the input reads as it did. -/
def weighBestSpec : ChangeSpec := { name := "weighBest", fn := fun _ => fun
  | [d] => { results := [.lit (.bool true)], args := [d] }
  | _ => none }
def weighBestRow : OpenClaim := { program := "ytgnpilaadggegaa", sum := "31a1245ee95be46a342e081dbbbdf22fde21f9d73aebc87bf89e05ae88ccded4", func := "reservoir/reservoirlaw2.WeighBest", spec := "weighBest", apart := false }
def WeighBestSaid : Prop := weighBestRow.holds Try.pinned (OpenSpec.ofChange weighBestSpec)

/-- ITS FALSE NEIGHBOUR: 'it returns false'. Refute it at one input. -/
def weighBestWrong : ChangeSpec := { name := "weighBest", fn := fun _ => fun
  | [d] => { results := [.lit (.bool false)], args := [d] }
  | _ => none }
def WeighBestWrongFalsely : Prop := weighBestRow.holds Try.pinned (OpenSpec.ofChange weighBestWrong)

/-- 'reservoirlaw2.WeighShares': WHATEVER THE INPUT: true; the input reads as it did. -/
def weighSharesSpec : ChangeSpec := { name := "weighShares", fn := fun _ => fun
  | [d1, d2, d3] => { results := [.lit (.bool true)], args := [d1, d2, d3] }
  | _ => none }
def weighSharesRow : OpenClaim := { program := "ytgnpilaadggegaa", sum := "31a1245ee95be46a342e081dbbbdf22fde21f9d73aebc87bf89e05ae88ccded4", func := "reservoir/reservoirlaw2.WeighShares", spec := "weighShares", apart := false }
def WeighSharesSaid : Prop := weighSharesRow.holds Try.pinned (OpenSpec.ofChange weighSharesSpec)

/-- ITS FALSE NEIGHBOUR: 'it returns false'. Refute it at one input. -/
def weighSharesWrong : ChangeSpec := { name := "weighShares", fn := fun _ => fun
  | [d1, d2, d3] => { results := [.lit (.bool false)], args := [d1, d2, d3] }
  | _ => none }
def WeighSharesWrongFalsely : Prop := weighSharesRow.holds Try.pinned (OpenSpec.ofChange weighSharesWrong)

/-- 'reservoirlaw2.WeighThousands': WHATEVER THE INPUT: true; the input reads as it did. -/
def weighThousandsSpec : ChangeSpec := { name := "weighThousands", fn := fun _ => fun
  | [d] => { results := [.lit (.bool true)], args := [d] }
  | _ => none }
def weighThousandsRow : OpenClaim := { program := "ytgnpilaadggegaa", sum := "31a1245ee95be46a342e081dbbbdf22fde21f9d73aebc87bf89e05ae88ccded4", func := "reservoir/reservoirlaw2.WeighThousands", spec := "weighThousands", apart := false }
def WeighThousandsSaid : Prop := weighThousandsRow.holds Try.pinned (OpenSpec.ofChange weighThousandsSpec)

/-- ITS FALSE NEIGHBOUR: 'it returns false'. Refute it at one input. -/
def weighThousandsWrong : ChangeSpec := { name := "weighThousands", fn := fun _ => fun
  | [d] => { results := [.lit (.bool false)], args := [d] }
  | _ => none }
def WeighThousandsWrongFalsely : Prop := weighThousandsRow.holds Try.pinned (OpenSpec.ofChange weighThousandsWrong)

/-- 'reservoirlaw2.WeighCleans': WHATEVER THE INPUT: true; the input reads as it did. -/
def weighCleansSpec : ChangeSpec := { name := "weighCleans", fn := fun _ => fun
  | [d] => { results := [.lit (.bool true)], args := [d] }
  | _ => none }
def weighCleansRow : OpenClaim := { program := "ytgnpilaadggegaa", sum := "31a1245ee95be46a342e081dbbbdf22fde21f9d73aebc87bf89e05ae88ccded4", func := "reservoir/reservoirlaw2.WeighCleans", spec := "weighCleans", apart := false }
def WeighCleansSaid : Prop := weighCleansRow.holds Try.pinned (OpenSpec.ofChange weighCleansSpec)

/-- ITS FALSE NEIGHBOUR: 'it returns false'. Refute it at one input. -/
def weighCleansWrong : ChangeSpec := { name := "weighCleans", fn := fun _ => fun
  | [d] => { results := [.lit (.bool false)], args := [d] }
  | _ => none }
def WeighCleansWrongFalsely : Prop := weighCleansRow.holds Try.pinned (OpenSpec.ofChange weighCleansWrong)

/-- 'reservoirlaw2.WeighRises': WHATEVER THE INPUT: true; the input reads as it did. -/
def weighRisesSpec : ChangeSpec := { name := "weighRises", fn := fun _ => fun
  | [d1, d2, d3] => { results := [.lit (.bool true)], args := [d1, d2, d3] }
  | _ => none }
def weighRisesRow : OpenClaim := { program := "ytgnpilaadggegaa", sum := "31a1245ee95be46a342e081dbbbdf22fde21f9d73aebc87bf89e05ae88ccded4", func := "reservoir/reservoirlaw2.WeighRises", spec := "weighRises", apart := false }
def WeighRisesSaid : Prop := weighRisesRow.holds Try.pinned (OpenSpec.ofChange weighRisesSpec)

/-- ITS FALSE NEIGHBOUR: 'it returns false'. Refute it at one input. -/
def weighRisesWrong : ChangeSpec := { name := "weighRises", fn := fun _ => fun
  | [d1, d2, d3] => { results := [.lit (.bool false)], args := [d1, d2, d3] }
  | _ => none }
def WeighRisesWrongFalsely : Prop := weighRisesRow.holds Try.pinned (OpenSpec.ofChange weighRisesWrong)

/- THE SECOND FORM. 'bulk': how many values and letters a reading holds, each counted each time it is reached (what is shared counts as often as it is met; a slice's spare places count too). A statement '..UptoSaid' is the law's where the arguments, and the package variables that the reading takes, are together of bulk at most 1048576: NARROWER than '..Said'. Prove '..Said' where nothing that the law and all that it calls make is longer than what came in: it says more and counts as full. Else prove '..UptoSaid'. A law counts once. -/
mutual
def uptoBulk {H : Type} : DataW H → Nat
  | .lit (.string bytes) => bytes.length + 1
  | .lit _ => 1
  | .nil => 1
  | .ptr d => uptoBulk d + 1
  | .slice elems spare => uptoBulkAll elems + uptoBulkAll spare + 1
  | .agg parts => uptoBulkAll parts + 1
  | .iface _ d => uptoBulk d + 1
  | .map entries => uptoBulkEntries entries + 1
  | .held _ => 1
def uptoBulkAll {H : Type} : List (DataW H) → Nat
  | [] => 0
  | d :: r => uptoBulk d + uptoBulkAll r
def uptoBulkEntries {H : Type} : List (Lit × DataW H) → Nat
  | [] => 0
  | x :: r => uptoBulkEntry x + uptoBulkEntries r
def uptoBulkEntry {H : Type} : Lit × DataW H → Nat
  | (.string bytes, d) => bytes.length + uptoBulk d + 1
  | (_, d) => uptoBulk d + 1
 end
def uptoSmall : (H : Type) → List (DataW H) → Bool := fun _ ds => decide (uptoBulkAll ds ≤ 1048576)
def OpenSpec.upto (s : _root_.Go.ChangeSpec) : _root_.Go.OpenSpec := { _root_.Go.OpenSpec.ofChange s with cond := some uptoSmall }

/-- 'reservoirlaw2.WeighRuns', WHERE WHAT IT READS IS OF BULK AT MOST 1048576: true; the input reads as it did. -/
def weighRunsUptoRow : OpenClaim := { program := "ytgnpilaadggegaa", sum := "31a1245ee95be46a342e081dbbbdf22fde21f9d73aebc87bf89e05ae88ccded4", func := "reservoir/reservoirlaw2.WeighRuns", spec := "weighRuns", apart := false, narrowed := true }
def WeighRunsUptoSaid : Prop := weighRunsUptoRow.holds Try.pinned (OpenSpec.upto weighRunsSpec)

/-- 'reservoirlaw2.WeighTells', WHERE WHAT IT READS IS OF BULK AT MOST 1048576: true; the input reads as it did. -/
def weighTellsUptoRow : OpenClaim := { program := "ytgnpilaadggegaa", sum := "31a1245ee95be46a342e081dbbbdf22fde21f9d73aebc87bf89e05ae88ccded4", func := "reservoir/reservoirlaw2.WeighTells", spec := "weighTells", apart := false, narrowed := true }
def WeighTellsUptoSaid : Prop := weighTellsUptoRow.holds Try.pinned (OpenSpec.upto weighTellsSpec)

/-- 'reservoirlaw2.WeighReads', WHERE WHAT IT READS IS OF BULK AT MOST 1048576: true; the input reads as it did. -/
def weighReadsUptoRow : OpenClaim := { program := "ytgnpilaadggegaa", sum := "31a1245ee95be46a342e081dbbbdf22fde21f9d73aebc87bf89e05ae88ccded4", func := "reservoir/reservoirlaw2.WeighReads", spec := "weighReads", apart := false, narrowed := true }
def WeighReadsUptoSaid : Prop := weighReadsUptoRow.holds Try.pinned (OpenSpec.upto weighReadsSpec)

/-- 'reservoirlaw2.WeighOrder', WHERE WHAT IT READS IS OF BULK AT MOST 1048576: true; the input reads as it did. -/
def weighOrderUptoRow : OpenClaim := { program := "ytgnpilaadggegaa", sum := "31a1245ee95be46a342e081dbbbdf22fde21f9d73aebc87bf89e05ae88ccded4", func := "reservoir/reservoirlaw2.WeighOrder", spec := "weighOrder", apart := false, narrowed := true }
def WeighOrderUptoSaid : Prop := weighOrderUptoRow.holds Try.pinned (OpenSpec.upto weighOrderSpec)

/-- 'reservoirlaw2.WeighBest', WHERE WHAT IT READS IS OF BULK AT MOST 1048576: true; the input reads as it did. -/
def weighBestUptoRow : OpenClaim := { program := "ytgnpilaadggegaa", sum := "31a1245ee95be46a342e081dbbbdf22fde21f9d73aebc87bf89e05ae88ccded4", func := "reservoir/reservoirlaw2.WeighBest", spec := "weighBest", apart := false, narrowed := true }
def WeighBestUptoSaid : Prop := weighBestUptoRow.holds Try.pinned (OpenSpec.upto weighBestSpec)

/-- 'reservoirlaw2.WeighShares', WHERE WHAT IT READS IS OF BULK AT MOST 1048576: true; the input reads as it did. -/
def weighSharesUptoRow : OpenClaim := { program := "ytgnpilaadggegaa", sum := "31a1245ee95be46a342e081dbbbdf22fde21f9d73aebc87bf89e05ae88ccded4", func := "reservoir/reservoirlaw2.WeighShares", spec := "weighShares", apart := false, narrowed := true }
def WeighSharesUptoSaid : Prop := weighSharesUptoRow.holds Try.pinned (OpenSpec.upto weighSharesSpec)

/-- 'reservoirlaw2.WeighThousands', WHERE WHAT IT READS IS OF BULK AT MOST 1048576: true; the input reads as it did. -/
def weighThousandsUptoRow : OpenClaim := { program := "ytgnpilaadggegaa", sum := "31a1245ee95be46a342e081dbbbdf22fde21f9d73aebc87bf89e05ae88ccded4", func := "reservoir/reservoirlaw2.WeighThousands", spec := "weighThousands", apart := false, narrowed := true }
def WeighThousandsUptoSaid : Prop := weighThousandsUptoRow.holds Try.pinned (OpenSpec.upto weighThousandsSpec)

/-- 'reservoirlaw2.WeighCleans', WHERE WHAT IT READS IS OF BULK AT MOST 1048576: true; the input reads as it did. -/
def weighCleansUptoRow : OpenClaim := { program := "ytgnpilaadggegaa", sum := "31a1245ee95be46a342e081dbbbdf22fde21f9d73aebc87bf89e05ae88ccded4", func := "reservoir/reservoirlaw2.WeighCleans", spec := "weighCleans", apart := false, narrowed := true }
def WeighCleansUptoSaid : Prop := weighCleansUptoRow.holds Try.pinned (OpenSpec.upto weighCleansSpec)

/-- 'reservoirlaw2.WeighRises', WHERE WHAT IT READS IS OF BULK AT MOST 1048576: true; the input reads as it did. -/
def weighRisesUptoRow : OpenClaim := { program := "ytgnpilaadggegaa", sum := "31a1245ee95be46a342e081dbbbdf22fde21f9d73aebc87bf89e05ae88ccded4", func := "reservoir/reservoirlaw2.WeighRises", spec := "weighRises", apart := false, narrowed := true }
def WeighRisesUptoSaid : Prop := weighRisesUptoRow.holds Try.pinned (OpenSpec.upto weighRisesSpec)

end Rows
end Go.Proofs.Ytgnpilaadggegaa
