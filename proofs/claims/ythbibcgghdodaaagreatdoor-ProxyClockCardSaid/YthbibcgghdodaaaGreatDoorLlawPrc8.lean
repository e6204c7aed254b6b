/- A closed sentence, piece by piece: piece 8. -/
import Derived.Test.YthbibcgghdodaaaGreatDoorSz9
import Derived.Test.YthbibcgghdodaaaGreatDoorRows
import Derived.Test.YthbibcgghdodaaaGreatDoorLlawPrcs
set_option maxRecDepth 20000
set_option linter.unusedSimpArgs false
set_option linter.unusedVariables false
namespace Go.Proofs.YthbibcgghdodaaaGreatDoor.cr
open Go Go.Ev Go.Sy Go.RowKit
theorem lawPrc_8 (u : Unit) : mev EPd noM 5000 3 plawPrc8 false (codeOf Tryz.prog 3 plawPrc8) ⟨mkOv sllawPrc8, 235, []⟩ none ⟨mkR rllawPrc8, 41⟩ (Sy.endsIn 0 235 wslawPrc) =
  (∃ y : Unit, ((True) /\ ((true = true) /\ True))) := by kernel_rfl
end Go.Proofs.YthbibcgghdodaaaGreatDoor.cr
