/-
  No cell of these rows narrows 'for every input' (looked for: loops, veiled, ifaces, maps, wideKeys, modest, calm, conditions, laid).
  DERIVED. THE GIVEN ROWS OF THIS SEAT. 10 by the template 'for every input the law returns true; each argument reads behind the call as it read before'; 0 by the template 'total and deterministic' (their statements: YtcallecdjebojaaGreatTotals.lean).
  GIVEN WITH THE SEED: the statements are not yours to turn. If you find one false, say at which input.
  Laid BY PROGRAM, IN A SANDBOX (cutbox-rows.mjs): the forced cells as the released guide's own fill.sh prints them over the translation 72e4455c9f4ae04a… (all of the seat's roots in one cut). By AI agents, Wed Nov 11 2026. No macro, syntax, notation, axiom, sorry.
-/
import Derived.Test.YtcallecdjebojaaGreatChecked
import GoSem.Claim
import GoSem.ClaimJoined
import GoSem.ClaimMapViews
import Derived.JoinedTies
import Derived.KernelRfl
namespace Go.Proofs.YtcallecdjebojaaGreat
/- THE CELL 'sum', in the pinned program and in every row, IS THE sha256 OF THE DUMP (.gsa) THAT YtcallecdjebojaaGreatProg.lean LOADS. Nothing in Lean hashes anything: it is a label: what it is worth is what the hold of that sum in a sandbox is worth. -/
noncomputable def Tryz.pinned : Pinned := { name := "ytcallecdjebojaagreat", sum := "72e4455c9f4ae04ac3d5bc9ad64cfd2b397df6112c4615cbee15b49fde01f836", checked := Tryz.checked }
namespace Rows
def none {H : Type} : Left H := { results := [], args := [] }

/-- 'reservoirlaw24.ConnRuns': WHATEVER THE INPUT: true; the input reads as it did. -/
def connRunsSpec : ChangeSpec := { name := "connRuns", fn := fun _ => fun
  | [] => { results := [.lit (.bool true)], args := [] }
  | _ => none }
def connRunsRow : OpenClaim := { program := "ytcallecdjebojaagreat", sum := "72e4455c9f4ae04ac3d5bc9ad64cfd2b397df6112c4615cbee15b49fde01f836", func := "reservoir/reservoirlaw24.ConnRuns", spec := "connRuns", unfollowed := true, recurses := true, apart := false }
def ConnRunsSaid : Prop := connRunsRow.holds Tryz.pinned (OpenSpec.ofChange connRunsSpec)

/-- ITS FALSE NEIGHBOUR: 'it returns false'. Refute it at one input. -/
def connRunsWrong : ChangeSpec := { name := "connRuns", fn := fun _ => fun
  | [] => { results := [.lit (.bool false)], args := [] }
  | _ => none }
def ConnRunsWrongFalsely : Prop := connRunsRow.holds Tryz.pinned (OpenSpec.ofChange connRunsWrong)

/-- 'reservoirlaw24.ConnParts': WHATEVER THE INPUT: true; the input reads as it did. -/
def connPartsSpec : ChangeSpec := { name := "connParts", fn := fun _ => fun
  | [d1, d2, d3, d4] => { results := [.lit (.bool true)], args := [d1, d2, d3, d4] }
  | _ => none }
def connPartsRow : OpenClaim := { program := "ytcallecdjebojaagreat", sum := "72e4455c9f4ae04ac3d5bc9ad64cfd2b397df6112c4615cbee15b49fde01f836", func := "reservoir/reservoirlaw24.ConnParts", spec := "connParts", unfollowed := true, recurses := true, apart := false }
def ConnPartsSaid : Prop := connPartsRow.holds Tryz.pinned (OpenSpec.ofChange connPartsSpec)

/-- ITS FALSE NEIGHBOUR: 'it returns false'. Refute it at one input. -/
def connPartsWrong : ChangeSpec := { name := "connParts", fn := fun _ => fun
  | [d1, d2, d3, d4] => { results := [.lit (.bool false)], args := [d1, d2, d3, d4] }
  | _ => none }
def ConnPartsWrongFalsely : Prop := connPartsRow.holds Tryz.pinned (OpenSpec.ofChange connPartsWrong)

/-- 'reservoirlaw24.ConnBounded': WHATEVER THE INPUT: true; the input reads as it did. -/
def connBoundedSpec : ChangeSpec := { name := "connBounded", fn := fun _ => fun
  | [d1, d2, d3] => { results := [.lit (.bool true)], args := [d1, d2, d3] }
  | _ => none }
def connBoundedRow : OpenClaim := { program := "ytcallecdjebojaagreat", sum := "72e4455c9f4ae04ac3d5bc9ad64cfd2b397df6112c4615cbee15b49fde01f836", func := "reservoir/reservoirlaw24.ConnBounded", spec := "connBounded", unfollowed := true, recurses := true, apart := false }
def ConnBoundedSaid : Prop := connBoundedRow.holds Tryz.pinned (OpenSpec.ofChange connBoundedSpec)

/-- ITS FALSE NEIGHBOUR: 'it returns false'. Refute it at one input. -/
def connBoundedWrong : ChangeSpec := { name := "connBounded", fn := fun _ => fun
  | [d1, d2, d3] => { results := [.lit (.bool false)], args := [d1, d2, d3] }
  | _ => none }
def ConnBoundedWrongFalsely : Prop := connBoundedRow.holds Tryz.pinned (OpenSpec.ofChange connBoundedWrong)

/-- 'reservoirlaw24.ConnTwo': WHATEVER THE INPUT: true; the input reads as it did. -/
def connTwoSpec : ChangeSpec := { name := "connTwo", fn := fun _ => fun
  | [d1, d2, d3, d4] => { results := [.lit (.bool true)], args := [d1, d2, d3, d4] }
  | _ => none }
def connTwoRow : OpenClaim := { program := "ytcallecdjebojaagreat", sum := "72e4455c9f4ae04ac3d5bc9ad64cfd2b397df6112c4615cbee15b49fde01f836", func := "reservoir/reservoirlaw24.ConnTwo", spec := "connTwo", unfollowed := true, recurses := true, apart := false }
def ConnTwoSaid : Prop := connTwoRow.holds Tryz.pinned (OpenSpec.ofChange connTwoSpec)

/-- ITS FALSE NEIGHBOUR: 'it returns false'. Refute it at one input. -/
def connTwoWrong : ChangeSpec := { name := "connTwo", fn := fun _ => fun
  | [d1, d2, d3, d4] => { results := [.lit (.bool false)], args := [d1, d2, d3, d4] }
  | _ => none }
def ConnTwoWrongFalsely : Prop := connTwoRow.holds Tryz.pinned (OpenSpec.ofChange connTwoWrong)

/-- 'reservoirlaw24.ConnPings': WHATEVER THE INPUT: true; the input reads as it did. -/
def connPingsSpec : ChangeSpec := { name := "connPings", fn := fun _ => fun
  | [d1, d2] => { results := [.lit (.bool true)], args := [d1, d2] }
  | _ => none }
def connPingsRow : OpenClaim := { program := "ytcallecdjebojaagreat", sum := "72e4455c9f4ae04ac3d5bc9ad64cfd2b397df6112c4615cbee15b49fde01f836", func := "reservoir/reservoirlaw24.ConnPings", spec := "connPings", unfollowed := true, recurses := true, apart := false }
def ConnPingsSaid : Prop := connPingsRow.holds Tryz.pinned (OpenSpec.ofChange connPingsSpec)

/-- ITS FALSE NEIGHBOUR: 'it returns false'. Refute it at one input. -/
def connPingsWrong : ChangeSpec := { name := "connPings", fn := fun _ => fun
  | [d1, d2] => { results := [.lit (.bool false)], args := [d1, d2] }
  | _ => none }
def ConnPingsWrongFalsely : Prop := connPingsRow.holds Tryz.pinned (OpenSpec.ofChange connPingsWrong)

/-- 'reservoirlaw24.ConnRefuses': WHATEVER THE INPUT: true; the input reads as it did. -/
def connRefusesSpec : ChangeSpec := { name := "connRefuses", fn := fun _ => fun
  | [d1, d2] => { results := [.lit (.bool true)], args := [d1, d2] }
  | _ => none }
def connRefusesRow : OpenClaim := { program := "ytcallecdjebojaagreat", sum := "72e4455c9f4ae04ac3d5bc9ad64cfd2b397df6112c4615cbee15b49fde01f836", func := "reservoir/reservoirlaw24.ConnRefuses", spec := "connRefuses", unfollowed := true, recurses := true, apart := false }
def ConnRefusesSaid : Prop := connRefusesRow.holds Tryz.pinned (OpenSpec.ofChange connRefusesSpec)

/-- ITS FALSE NEIGHBOUR: 'it returns false'. Refute it at one input. -/
def connRefusesWrong : ChangeSpec := { name := "connRefuses", fn := fun _ => fun
  | [d1, d2] => { results := [.lit (.bool false)], args := [d1, d2] }
  | _ => none }
def ConnRefusesWrongFalsely : Prop := connRefusesRow.holds Tryz.pinned (OpenSpec.ofChange connRefusesWrong)

/-- 'reservoirlaw24.ConnBack': WHATEVER THE INPUT: true; the input reads as it did. -/
def connBackSpec : ChangeSpec := { name := "connBack", fn := fun _ => fun
  | [d1, d2] => { results := [.lit (.bool true)], args := [d1, d2] }
  | _ => none }
def connBackRow : OpenClaim := { program := "ytcallecdjebojaagreat", sum := "72e4455c9f4ae04ac3d5bc9ad64cfd2b397df6112c4615cbee15b49fde01f836", func := "reservoir/reservoirlaw24.ConnBack", spec := "connBack", unfollowed := true, recurses := true, apart := false }
def ConnBackSaid : Prop := connBackRow.holds Tryz.pinned (OpenSpec.ofChange connBackSpec)

/-- ITS FALSE NEIGHBOUR: 'it returns false'. Refute it at one input. -/
def connBackWrong : ChangeSpec := { name := "connBack", fn := fun _ => fun
  | [d1, d2] => { results := [.lit (.bool false)], args := [d1, d2] }
  | _ => none }
def ConnBackWrongFalsely : Prop := connBackRow.holds Tryz.pinned (OpenSpec.ofChange connBackWrong)

/-- 'reservoirlaw24.ConnFlow': WHATEVER THE INPUT: true; the input reads as it did. -/
def connFlowSpec : ChangeSpec := { name := "connFlow", fn := fun _ => fun
  | [d] => { results := [.lit (.bool true)], args := [d] }
  | _ => none }
def connFlowRow : OpenClaim := { program := "ytcallecdjebojaagreat", sum := "72e4455c9f4ae04ac3d5bc9ad64cfd2b397df6112c4615cbee15b49fde01f836", func := "reservoir/reservoirlaw24.ConnFlow", spec := "connFlow", unfollowed := true, recurses := true, apart := false }
def ConnFlowSaid : Prop := connFlowRow.holds Tryz.pinned (OpenSpec.ofChange connFlowSpec)

/-- ITS FALSE NEIGHBOUR: 'it returns false'. Refute it at one input. -/
def connFlowWrong : ChangeSpec := { name := "connFlow", fn := fun _ => fun
  | [d] => { results := [.lit (.bool false)], args := [d] }
  | _ => none }
def ConnFlowWrongFalsely : Prop := connFlowRow.holds Tryz.pinned (OpenSpec.ofChange connFlowWrong)

/-- 'reservoirlaw24.ConnShuts': WHATEVER THE INPUT: true; the input reads as it did. -/
def connShutsSpec : ChangeSpec := { name := "connShuts", fn := fun _ => fun
  | [d1, d2] => { results := [.lit (.bool true)], args := [d1, d2] }
  | _ => none }
def connShutsRow : OpenClaim := { program := "ytcallecdjebojaagreat", sum := "72e4455c9f4ae04ac3d5bc9ad64cfd2b397df6112c4615cbee15b49fde01f836", func := "reservoir/reservoirlaw24.ConnShuts", spec := "connShuts", unfollowed := true, recurses := true, apart := false }
def ConnShutsSaid : Prop := connShutsRow.holds Tryz.pinned (OpenSpec.ofChange connShutsSpec)

/-- ITS FALSE NEIGHBOUR: 'it returns false'. Refute it at one input. -/
def connShutsWrong : ChangeSpec := { name := "connShuts", fn := fun _ => fun
  | [d1, d2] => { results := [.lit (.bool false)], args := [d1, d2] }
  | _ => none }
def ConnShutsWrongFalsely : Prop := connShutsRow.holds Tryz.pinned (OpenSpec.ofChange connShutsWrong)

/-- 'reservoirlaw24.ConnWindows': WHATEVER THE INPUT: true; the input reads as it did. -/
def connWindowsSpec : ChangeSpec := { name := "connWindows", fn := fun _ => fun
  | [d1, d2, d3] => { results := [.lit (.bool true)], args := [d1, d2, d3] }
  | _ => none }
def connWindowsRow : OpenClaim := { program := "ytcallecdjebojaagreat", sum := "72e4455c9f4ae04ac3d5bc9ad64cfd2b397df6112c4615cbee15b49fde01f836", func := "reservoir/reservoirlaw24.ConnWindows", spec := "connWindows", unfollowed := true, recurses := true, apart := false }
def ConnWindowsSaid : Prop := connWindowsRow.holds Tryz.pinned (OpenSpec.ofChange connWindowsSpec)

/-- ITS FALSE NEIGHBOUR: 'it returns false'. Refute it at one input. -/
def connWindowsWrong : ChangeSpec := { name := "connWindows", fn := fun _ => fun
  | [d1, d2, d3] => { results := [.lit (.bool false)], args := [d1, d2, d3] }
  | _ => none }
def ConnWindowsWrongFalsely : Prop := connWindowsRow.holds Tryz.pinned (OpenSpec.ofChange connWindowsWrong)

/- THE SECOND FORM. 'bulk': how many values and letters a reading holds, each counted each time it is reached (what is shared counts as often as it is met; a slice's spare places count too). A statement '..UptoSaid' is the law's where the arguments, and the package variables that the reading takes, are together of bulk at most 1048576: NARROWER than '..Said'. Prove '..Said' where nothing that the law and all that it calls make is longer than what came in: it says more and counts as full. Else prove '..UptoSaid'. A law counts once. -/
mutual
def uptoBulk {H : Type} : DataW H → Nat
  | .lit (.string bytes) => bytes.length + 1
  | .lit _ => 1
  | .nil => 1
  | .ptr d => uptoBulk d + 1
  | .slice elems spare => uptoBulkAll elems + uptoBulkAll spare + 1
  | .agg parts => uptoBulkAll parts + 1
  | .iface _ d => uptoBulk d + 1
  | .map entries => uptoBulkEntries entries + 1
  | .held _ => 1
def uptoBulkAll {H : Type} : List (DataW H) → Nat
  | [] => 0
  | d :: r => uptoBulk d + uptoBulkAll r
def uptoBulkEntries {H : Type} : List (Lit × DataW H) → Nat
  | [] => 0
  | x :: r => uptoBulkEntry x + uptoBulkEntries r
def uptoBulkEntry {H : Type} : Lit × DataW H → Nat
  | (.string bytes, d) => bytes.length + uptoBulk d + 1
  | (_, d) => uptoBulk d + 1
 end
def uptoSmall : (H : Type) → List (DataW H) → Bool := fun _ ds => decide (uptoBulkAll ds ≤ 1048576)
def OpenSpec.upto (s : _root_.Go.ChangeSpec) : _root_.Go.OpenSpec := { _root_.Go.OpenSpec.ofChange s with cond := some uptoSmall }

/-- 'reservoirlaw24.ConnRuns', WHERE WHAT IT READS IS OF BULK AT MOST 1048576: true; the input reads as it did. -/
def connRunsUptoRow : OpenClaim := { program := "ytcallecdjebojaagreat", sum := "72e4455c9f4ae04ac3d5bc9ad64cfd2b397df6112c4615cbee15b49fde01f836", func := "reservoir/reservoirlaw24.ConnRuns", spec := "connRuns", unfollowed := true, recurses := true, apart := false, narrowed := true }
def ConnRunsUptoSaid : Prop := connRunsUptoRow.holds Tryz.pinned (OpenSpec.upto connRunsSpec)

/-- 'reservoirlaw24.ConnParts', WHERE WHAT IT READS IS OF BULK AT MOST 1048576: true; the input reads as it did. -/
def connPartsUptoRow : OpenClaim := { program := "ytcallecdjebojaagreat", sum := "72e4455c9f4ae04ac3d5bc9ad64cfd2b397df6112c4615cbee15b49fde01f836", func := "reservoir/reservoirlaw24.ConnParts", spec := "connParts", unfollowed := true, recurses := true, apart := false, narrowed := true }
def ConnPartsUptoSaid : Prop := connPartsUptoRow.holds Tryz.pinned (OpenSpec.upto connPartsSpec)

/-- 'reservoirlaw24.ConnBounded', WHERE WHAT IT READS IS OF BULK AT MOST 1048576: true; the input reads as it did. -/
def connBoundedUptoRow : OpenClaim := { program := "ytcallecdjebojaagreat", sum := "72e4455c9f4ae04ac3d5bc9ad64cfd2b397df6112c4615cbee15b49fde01f836", func := "reservoir/reservoirlaw24.ConnBounded", spec := "connBounded", unfollowed := true, recurses := true, apart := false, narrowed := true }
def ConnBoundedUptoSaid : Prop := connBoundedUptoRow.holds Tryz.pinned (OpenSpec.upto connBoundedSpec)

/-- 'reservoirlaw24.ConnTwo', WHERE WHAT IT READS IS OF BULK AT MOST 1048576: true; the input reads as it did. -/
def connTwoUptoRow : OpenClaim := { program := "ytcallecdjebojaagreat", sum := "72e4455c9f4ae04ac3d5bc9ad64cfd2b397df6112c4615cbee15b49fde01f836", func := "reservoir/reservoirlaw24.ConnTwo", spec := "connTwo", unfollowed := true, recurses := true, apart := false, narrowed := true }
def ConnTwoUptoSaid : Prop := connTwoUptoRow.holds Tryz.pinned (OpenSpec.upto connTwoSpec)

/-- 'reservoirlaw24.ConnPings', WHERE WHAT IT READS IS OF BULK AT MOST 1048576: true; the input reads as it did. -/
def connPingsUptoRow : OpenClaim := { program := "ytcallecdjebojaagreat", sum := "72e4455c9f4ae04ac3d5bc9ad64cfd2b397df6112c4615cbee15b49fde01f836", func := "reservoir/reservoirlaw24.ConnPings", spec := "connPings", unfollowed := true, recurses := true, apart := false, narrowed := true }
def ConnPingsUptoSaid : Prop := connPingsUptoRow.holds Tryz.pinned (OpenSpec.upto connPingsSpec)

/-- 'reservoirlaw24.ConnRefuses', WHERE WHAT IT READS IS OF BULK AT MOST 1048576: true; the input reads as it did. -/
def connRefusesUptoRow : OpenClaim := { program := "ytcallecdjebojaagreat", sum := "72e4455c9f4ae04ac3d5bc9ad64cfd2b397df6112c4615cbee15b49fde01f836", func := "reservoir/reservoirlaw24.ConnRefuses", spec := "connRefuses", unfollowed := true, recurses := true, apart := false, narrowed := true }
def ConnRefusesUptoSaid : Prop := connRefusesUptoRow.holds Tryz.pinned (OpenSpec.upto connRefusesSpec)

/-- 'reservoirlaw24.ConnBack', WHERE WHAT IT READS IS OF BULK AT MOST 1048576: true; the input reads as it did. -/
def connBackUptoRow : OpenClaim := { program := "ytcallecdjebojaagreat", sum := "72e4455c9f4ae04ac3d5bc9ad64cfd2b397df6112c4615cbee15b49fde01f836", func := "reservoir/reservoirlaw24.ConnBack", spec := "connBack", unfollowed := true, recurses := true, apart := false, narrowed := true }
def ConnBackUptoSaid : Prop := connBackUptoRow.holds Tryz.pinned (OpenSpec.upto connBackSpec)

/-- 'reservoirlaw24.ConnFlow', WHERE WHAT IT READS IS OF BULK AT MOST 1048576: true; the input reads as it did. -/
def connFlowUptoRow : OpenClaim := { program := "ytcallecdjebojaagreat", sum := "72e4455c9f4ae04ac3d5bc9ad64cfd2b397df6112c4615cbee15b49fde01f836", func := "reservoir/reservoirlaw24.ConnFlow", spec := "connFlow", unfollowed := true, recurses := true, apart := false, narrowed := true }
def ConnFlowUptoSaid : Prop := connFlowUptoRow.holds Tryz.pinned (OpenSpec.upto connFlowSpec)

/-- 'reservoirlaw24.ConnShuts', WHERE WHAT IT READS IS OF BULK AT MOST 1048576: true; the input reads as it did. -/
def connShutsUptoRow : OpenClaim := { program := "ytcallecdjebojaagreat", sum := "72e4455c9f4ae04ac3d5bc9ad64cfd2b397df6112c4615cbee15b49fde01f836", func := "reservoir/reservoirlaw24.ConnShuts", spec := "connShuts", unfollowed := true, recurses := true, apart := false, narrowed := true }
def ConnShutsUptoSaid : Prop := connShutsUptoRow.holds Tryz.pinned (OpenSpec.upto connShutsSpec)

/-- 'reservoirlaw24.ConnWindows', WHERE WHAT IT READS IS OF BULK AT MOST 1048576: true; the input reads as it did. -/
def connWindowsUptoRow : OpenClaim := { program := "ytcallecdjebojaagreat", sum := "72e4455c9f4ae04ac3d5bc9ad64cfd2b397df6112c4615cbee15b49fde01f836", func := "reservoir/reservoirlaw24.ConnWindows", spec := "connWindows", unfollowed := true, recurses := true, apart := false, narrowed := true }
def ConnWindowsUptoSaid : Prop := connWindowsUptoRow.holds Tryz.pinned (OpenSpec.upto connWindowsSpec)

end Rows
end Go.Proofs.YtcallecdjebojaaGreat
