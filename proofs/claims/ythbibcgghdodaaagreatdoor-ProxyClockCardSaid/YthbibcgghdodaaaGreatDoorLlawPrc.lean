/- A closed sentence: the pieces together. -/
import Derived.Test.YthbibcgghdodaaaGreatDoorSz9
import Derived.Test.YthbibcgghdodaaaGreatDoorRows
import Derived.Test.YthbibcgghdodaaaGreatDoorLlawPrc8
import Derived.Test.YthbibcgghdodaaaGreatDoorLlawPrc7
import Derived.Test.YthbibcgghdodaaaGreatDoorLlawPrc6
import Derived.Test.YthbibcgghdodaaaGreatDoorLlawPrc5
import Derived.Test.YthbibcgghdodaaaGreatDoorLlawPrc4
import Derived.Test.YthbibcgghdodaaaGreatDoorLlawPrc3
import Derived.Test.YthbibcgghdodaaaGreatDoorLlawPrc2
import Derived.Test.YthbibcgghdodaaaGreatDoorLlawPrc1
set_option maxRecDepth 20000
set_option linter.unusedSimpArgs false
set_option linter.unusedVariables false
namespace Go.Proofs.YthbibcgghdodaaaGreatDoor.cr
open Go Go.Ev Go.Sy Go.RowKit
theorem lawPrc_0 (u : Unit) : mcall EPd mlawPrc1 5000 3 [] ⟨mkR (nums 0 []), 0⟩ (retIs 0 (.bool true) []) =
  (∀ (y : Unit), ((True) → ((true = true) /\ True))) := by kernel_rfl
theorem lawPrc_p8 : PieceOk EPd 0 (3, plawPrc8, splawPrc8) := Go.Proofs.YthbibcgghdodaaaGreatDoor.ck.pieceC (M := noM) (n := 5000) (by kernel_rfl) EPd_calls EPd_l lm_none (lawPrc_8 ()) (by simp [Plain, noAddr])
theorem lawPrc_p7 : PieceOk EPd 0 (3, plawPrc7, splawPrc7) := Go.Proofs.YthbibcgghdodaaaGreatDoor.ck.pieceC (M := mlawPrc8) (n := 5000) (by kernel_rfl) EPd_calls EPd_l (lm_one lawPrc_p8) (lawPrc_7 ()) (by simp [Plain, noAddr])
theorem lawPrc_p6 : PieceOk EPd 0 (3, plawPrc6, splawPrc6) := Go.Proofs.YthbibcgghdodaaaGreatDoor.ck.pieceC (M := mlawPrc7) (n := 5000) (by kernel_rfl) EPd_calls EPd_l (lm_one lawPrc_p7) (lawPrc_6 ()) (by simp [Plain, noAddr])
theorem lawPrc_p5 : PieceOk EPd 0 (3, plawPrc5, splawPrc5) := Go.Proofs.YthbibcgghdodaaaGreatDoor.ck.pieceC (M := mlawPrc6) (n := 5000) (by kernel_rfl) EPd_calls EPd_l (lm_one lawPrc_p6) (lawPrc_5 ()) (by simp [Plain, noAddr])
theorem lawPrc_p4 : PieceOk EPd 0 (3, plawPrc4, splawPrc4) := Go.Proofs.YthbibcgghdodaaaGreatDoor.ck.pieceC (M := mlawPrc5) (n := 5000) (by kernel_rfl) EPd_calls EPd_l (lm_one lawPrc_p5) (lawPrc_4 ()) (by simp [Plain, noAddr])
theorem lawPrc_p3 : PieceOk EPd 0 (3, plawPrc3, splawPrc3) := Go.Proofs.YthbibcgghdodaaaGreatDoor.ck.pieceC (M := mlawPrc4) (n := 5000) (by kernel_rfl) EPd_calls EPd_l (lm_one lawPrc_p4) (lawPrc_3 ()) (by simp [Plain, noAddr])
theorem lawPrc_p2 : PieceOk EPd 0 (3, plawPrc2, splawPrc2) := Go.Proofs.YthbibcgghdodaaaGreatDoor.ck.pieceC (M := mlawPrc3) (n := 5000) (by kernel_rfl) EPd_calls EPd_l (lm_one lawPrc_p3) (lawPrc_2 ()) (by simp [Plain, noAddr])
theorem lawPrc_p1 : PieceOk EPd 0 (3, plawPrc1, splawPrc1) := Go.Proofs.YthbibcgghdodaaaGreatDoor.ck.pieceC (M := mlawPrc2) (n := 5000) (by kernel_rfl) EPd_calls EPd_l (lm_one lawPrc_p2) (lawPrc_1 ()) (by simp [Plain, noAddr])
theorem pr_law : Con Tryz.prog 3 [] [] (.bool true) [] := by
  exact con_vc (E := EPd) (by kernel_rfl) EPd_calls EPd_l (M := mlawPrc1) (lm_one lawPrc_p1) (lawPrc_0 ()) (by simp [Plain, noAddr])
end Go.Proofs.YthbibcgghdodaaaGreatDoor.cr
