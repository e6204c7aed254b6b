/- A closed sentence, piece by piece: piece 3. -/
import Derived.Test.YthbibcgghdodaaaGreatDoorSz9
import Derived.Test.YthbibcgghdodaaaGreatDoorRows
import Derived.Test.YthbibcgghdodaaaGreatDoorLlawPrcs
set_option maxRecDepth 20000
set_option linter.unusedSimpArgs false
set_option linter.unusedVariables false
namespace Go.Proofs.YthbibcgghdodaaaGreatDoor.cr
open Go Go.Ev Go.Sy Go.RowKit
theorem lawPrc_3 (u : Unit) : mev EPd mlawPrc4 5000 3 plawPrc3 false (codeOf Tryz.prog 3 plawPrc3) ⟨mkOv sllawPrc3, 235, []⟩ none ⟨mkR rllawPrc3, 51⟩ (Sy.endsIn 0 235 wslawPrc) =
  (∀ (y : Unit), ((True) → (∃ y2 : Unit, ((True) /\ ((true = true) /\ True))))) := by kernel_rfl
end Go.Proofs.YthbibcgghdodaaaGreatDoor.cr
