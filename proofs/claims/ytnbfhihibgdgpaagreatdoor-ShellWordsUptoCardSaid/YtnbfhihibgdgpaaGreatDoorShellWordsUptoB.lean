/- The second part of what follows: the plain statement. -/
import Derived.Test.YtnbfhihibgdgpaaGreatDoorRows
import Derived.ChangeMaps5
import Derived.ChangeSame
import Derived.ChangeArms
import Derived.JoinedCond
import Derived.Test.YtnbfhihibgdgpaaGreatDoorCards
import Derived.Test.YtnbfhihibgdgpaaGreatDoorTie
import Derived.ProofKit
import Derived.LaidMore
import Derived.OpenShut
import Derived.Stop.Joined
import Derived.Stop.LaidErr
import Derived.SevenTiedAt
import Derived.Lib.LaidTab
import Derived.Test.YtnbfhihibgdgpaaGreatDoorLswH
import Derived.Test.YtnbfhihibgdgpaaGreatDoorShellWordsUptoA
namespace Go.Proofs.YtnbfhihibgdgpaaGreatDoor.shellWordsUpto
open Go.Ev Go.Sy Go.ChangeShapes Go.WideShapes Go.ChangeAt Go.RowKit
theorem and_t {a b : Bool} (h : a = true) (k : b = true) : (a && b) = true := by rw [h, k]; rfl
theorem fa1 : (laidOutB Tryz.prog) = true := by kernel_rfl
theorem fa2 : (mapsRowed Tryz.prog) = true := by kernel_rfl
theorem fa4 : (namedTie Tryz.prog Rows.shellWordsUptoRow.named Rows.shellWordsSpec.vars) = true := by kernel_rfl
theorem fa8 : (Tryz.prog.stopKnobs == []) = true := by kernel_rfl
theorem fa9 : (Rows.shellWordsUptoRow.inPlace == Tryz.prog.inPlace 5) = true := by kernel_rfl
theorem fa10 : (Rows.shellWordsUptoRow.unfollowed == Tryz.prog.unfollowed 5) = true := by kernel_rfl
theorem fa11 : (Rows.shellWordsUptoRow.recurses == Tryz.prog.recurses 5) = true := by kernel_rfl
theorem fa12 : (Rows.shellWordsUptoRow.named == Tryz.prog.varsNamed 5) = true := by kernel_rfl
theorem fa22 : (Rows.shellWordsUptoRow.plainKeys == Tryz.prog.plainKeys) = true := by kernel_rfl
theorem fa24 : (Tryz.prog.stopsHeard) = true := by kernel_rfl
theorem fa25 : (Tryz.prog.mayEnter) = true := by kernel_rfl
theorem fa26 : (Rows.shellWordsUptoRow.lifted == Tryz.prog.liftsFinal) = true := by kernel_rfl
theorem facts : joinedFacts Tryz.prog 5 Tryz.f5 Rows.shellWordsSpec Rows.shellWordsUptoRow = true := by
  unfold joinedFacts
  refine and_t ?_ (by kernel_rfl)
  refine and_t ?_ (by kernel_rfl)
  refine and_t ?_ (by kernel_rfl)
  refine and_t ?_ (by kernel_rfl)
  refine and_t ?_ (by kernel_rfl)
  refine and_t ?_ fa26
  refine and_t ?_ fa25
  refine and_t ?_ fa24
  refine and_t ?_ (by kernel_rfl)
  refine and_t ?_ fa22
  refine and_t ?_ (by kernel_rfl)
  refine and_t ?_ (by kernel_rfl)
  refine and_t ?_ (by kernel_rfl)
  refine and_t ?_ (by kernel_rfl)
  refine and_t ?_ (by kernel_rfl)
  refine and_t ?_ (by kernel_rfl)
  refine and_t ?_ (by kernel_rfl)
  refine and_t ?_ (by kernel_rfl)
  refine and_t ?_ (by kernel_rfl)
  refine and_t ?_ fa12
  refine and_t ?_ fa11
  refine and_t ?_ fa10
  refine and_t ?_ fa9
  refine and_t ?_ fa8
  refine and_t ?_ (by kernel_rfl)
  refine and_t ?_ (by kernel_rfl)
  refine and_t ?_ (by kernel_rfl)
  refine and_t ?_ fa4
  refine and_t ?_ (by kernel_rfl)
  refine and_t ?_ fa2
  refine and_t ?_ fa1
  exact (by kernel_rfl)
set_option maxRecDepth 100000 in
theorem over : Rows.ShellWordsUptoSaid :=
  OpenClaim.holds_of_cond 5 Tryz.f5 rfl rfl rfl rfl rfl rfl rfl ⟨rfl, rfl, rfl, rfl, rfl⟩ rfl rfl rfl rfl rfl (by kernel_rfl) Tryz.func5 facts
    (of_decide_eq_true (by kernel_rfl)) (by unfold Func.isWrapper; first | (rw [if_pos (by decide +kernel)]; kernel_rfl) | (rw [if_neg (by decide +kernel)]; exact ⟨rfl, rfl⟩))
    (fun os started H enc _ F => lifted os started H enc F)

end Go.Proofs.YtnbfhihibgdgpaaGreatDoor.shellWordsUpto
