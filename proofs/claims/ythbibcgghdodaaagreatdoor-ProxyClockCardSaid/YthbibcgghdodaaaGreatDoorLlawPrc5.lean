/- A closed sentence, piece by piece: piece 5. -/
import Derived.Test.YthbibcgghdodaaaGreatDoorSz9
import Derived.Test.YthbibcgghdodaaaGreatDoorRows
import Derived.Test.YthbibcgghdodaaaGreatDoorLlawPrcs
set_option maxRecDepth 20000
set_option linter.unusedSimpArgs false
set_option linter.unusedVariables false
namespace Go.Proofs.YthbibcgghdodaaaGreatDoor.cr
open Go Go.Ev Go.Sy Go.RowKit
theorem lawPrc_5 (u : Unit) : mev EPd mlawPrc6 5000 3 plawPrc5 false (codeOf Tryz.prog 3 plawPrc5) ⟨mkOv sllawPrc5, 235, []⟩ none ⟨mkR rllawPrc5, 38⟩ (Sy.endsIn 0 235 wslawPrc) =
  (((((Nat.succ (nat_lit 2) + Nat.succ (nat_lit 7) * Nat.succ (nat_lit 0) <= List.length [Value.int IntKind.u8 (Int.ofNat (Nat.succ (nat_lit 135))), Value.int IntKind.u8
  (Int.ofNat (Nat.succ (nat_lit 87))), Value.int IntKind.u8 (Int.ofNat (Nat.succ (nat_lit 135))), Value.int IntKind.u8 (Int.ofNat (Nat.succ (nat_lit 163))), Value.int
  IntKind.u8 (Int.ofNat (Nat.succ (nat_lit 125))), Value.int IntKind.u8 (Int.ofNat (Nat.succ (nat_lit 85))), Value.int IntKind.u8 (Int.ofNat (Nat.succ (nat_lit 27))),
  Value.int IntKind.u8 (Int.ofNat (Nat.succ (nat_lit 196))), Value.int IntKind.u8 (Int.ofNat (Nat.succ (nat_lit 128))), Value.int IntKind.u8 (Int.ofNat (Nat.succ (nat_lit
  191))), Value.int IntKind.u8 (Int.ofNat (Nat.succ (nat_lit 126))), Value.int IntKind.u8 (Int.ofNat (Nat.succ (nat_lit 123))), Value.int IntKind.u8 (Int.ofNat (Nat.succ
  (nat_lit 135))), Value.int IntKind.u8 (Int.ofNat (Nat.succ (nat_lit 17))), Value.int IntKind.u8 (Int.ofNat (Nat.succ (nat_lit 149))), Value.int IntKind.u8 (Int.ofNat
  (Nat.succ (nat_lit 20))), Value.int IntKind.u8 (Int.ofNat (Nat.succ (nat_lit 4))), Value.int IntKind.u8 (Int.ofNat (Nat.succ (nat_lit 178))), Value.int IntKind.u8
  (Int.ofNat (Nat.succ (nat_lit 184))), Value.int IntKind.u8 (Int.ofNat (Nat.succ (nat_lit 204))), Value.int IntKind.u8 (Int.ofNat (Nat.succ (nat_lit 102)))] /\ Plain
  (List.take (Nat.succ (nat_lit 7) * Nat.succ (nat_lit 0)) (List.drop (Nat.succ (nat_lit 2)) [Value.int IntKind.u8 (Int.ofNat (Nat.succ (nat_lit 135))), Value.int IntKind.u8
  (Int.ofNat (Nat.succ (nat_lit 87))), Value.int IntKind.u8 (Int.ofNat (Nat.succ (nat_lit 135))), Value.int IntKind.u8 (Int.ofNat (Nat.succ (nat_lit 163))), Value.int
  IntKind.u8 (Int.ofNat (Nat.succ (nat_lit 125))), Value.int IntKind.u8 (Int.ofNat (Nat.succ (nat_lit 85))), Value.int IntKind.u8 (Int.ofNat (Nat.succ (nat_lit 27))),
  Value.int IntKind.u8 (Int.ofNat (Nat.succ (nat_lit 196))), Value.int IntKind.u8 (Int.ofNat (Nat.succ (nat_lit 128))), Value.int IntKind.u8 (Int.ofNat (Nat.succ (nat_lit
  191))), Value.int IntKind.u8 (Int.ofNat (Nat.succ (nat_lit 126))), Value.int IntKind.u8 (Int.ofNat (Nat.succ (nat_lit 123))), Value.int IntKind.u8 (Int.ofNat (Nat.succ
  (nat_lit 135))), Value.int IntKind.u8 (Int.ofNat (Nat.succ (nat_lit 17))), Value.int IntKind.u8 (Int.ofNat (Nat.succ (nat_lit 149))), Value.int IntKind.u8 (Int.ofNat
  (Nat.succ (nat_lit 20))), Value.int IntKind.u8 (Int.ofNat (Nat.succ (nat_lit 4))), Value.int IntKind.u8 (Int.ofNat (Nat.succ (nat_lit 178))), Value.int IntKind.u8
  (Int.ofNat (Nat.succ (nat_lit 184))), Value.int IntKind.u8 (Int.ofNat (Nat.succ (nat_lit 204))), Value.int IntKind.u8 (Int.ofNat (Nat.succ (nat_lit 102)))]))) /\ True) /\
  ((True /\ True) /\ (True /\ True)))) /\ (((((Nat.succ (nat_lit 12) + Nat.succ (nat_lit 7) * Nat.succ (nat_lit 0) <= List.length [Value.int IntKind.u8 (Int.ofNat (Nat.succ
  (nat_lit 135))), Value.int IntKind.u8 (Int.ofNat (Nat.succ (nat_lit 87))), Value.int IntKind.u8 (Int.ofNat (Nat.succ (nat_lit 135))), Value.int IntKind.u8 (Int.ofNat
  (Nat.succ (nat_lit 163))), Value.int IntKind.u8 (Int.ofNat (Nat.succ (nat_lit 125))), Value.int IntKind.u8 (Int.ofNat (Nat.succ (nat_lit 85))), Value.int IntKind.u8
  (Int.ofNat (Nat.succ (nat_lit 27))), Value.int IntKind.u8 (Int.ofNat (Nat.succ (nat_lit 196))), Value.int IntKind.u8 (Int.ofNat (Nat.succ (nat_lit 128))), Value.int
  IntKind.u8 (Int.ofNat (Nat.succ (nat_lit 191))), Value.int IntKind.u8 (Int.ofNat (Nat.succ (nat_lit 126))), Value.int IntKind.u8 (Int.ofNat (Nat.succ (nat_lit 123))),
  Value.int IntKind.u8 (Int.ofNat (Nat.succ (nat_lit 135))), Value.int IntKind.u8 (Int.ofNat (Nat.succ (nat_lit 17))), Value.int IntKind.u8 (Int.ofNat (Nat.succ (nat_lit
  149))), Value.int IntKind.u8 (Int.ofNat (Nat.succ (nat_lit 20))), Value.int IntKind.u8 (Int.ofNat (Nat.succ (nat_lit 4))), Value.int IntKind.u8 (Int.ofNat (Nat.succ
  (nat_lit 178))), Value.int IntKind.u8 (Int.ofNat (Nat.succ (nat_lit 184))), Value.int IntKind.u8 (Int.ofNat (Nat.succ (nat_lit 204))), Value.int IntKind.u8 (Int.ofNat
  (Nat.succ (nat_lit 102)))] /\ Plain (List.take (Nat.succ (nat_lit 7) * Nat.succ (nat_lit 0)) (List.drop (Nat.succ (nat_lit 12)) [Value.int IntKind.u8 (Int.ofNat (Nat.succ
  (nat_lit 135))), Value.int IntKind.u8 (Int.ofNat (Nat.succ (nat_lit 87))), Value.int IntKind.u8 (Int.ofNat (Nat.succ (nat_lit 135))), Value.int IntKind.u8 (Int.ofNat
  (Nat.succ (nat_lit 163))), Value.int IntKind.u8 (Int.ofNat (Nat.succ (nat_lit 125))), Value.int IntKind.u8 (Int.ofNat (Nat.succ (nat_lit 85))), Value.int IntKind.u8
  (Int.ofNat (Nat.succ (nat_lit 27))), Value.int IntKind.u8 (Int.ofNat (Nat.succ (nat_lit 196))), Value.int IntKind.u8 (Int.ofNat (Nat.succ (nat_lit 128))), Value.int
  IntKind.u8 (Int.ofNat (Nat.succ (nat_lit 191))), Value.int IntKind.u8 (Int.ofNat (Nat.succ (nat_lit 126))), Value.int IntKind.u8 (Int.ofNat (Nat.succ (nat_lit 123))),
  Value.int IntKind.u8 (Int.ofNat (Nat.succ (nat_lit 135))), Value.int IntKind.u8 (Int.ofNat (Nat.succ (nat_lit 17))), Value.int IntKind.u8 (Int.ofNat (Nat.succ (nat_lit
  149))), Value.int IntKind.u8 (Int.ofNat (Nat.succ (nat_lit 20))), Value.int IntKind.u8 (Int.ofNat (Nat.succ (nat_lit 4))), Value.int IntKind.u8 (Int.ofNat (Nat.succ
  (nat_lit 178))), Value.int IntKind.u8 (Int.ofNat (Nat.succ (nat_lit 184))), Value.int IntKind.u8 (Int.ofNat (Nat.succ (nat_lit 204))), Value.int IntKind.u8 (Int.ofNat
  (Nat.succ (nat_lit 102)))]))) /\ True) /\ ((True /\ True) /\ (True /\ True)))) /\ (∀ (y : Unit), ((True) → (∃ y2 : Unit, ((True) /\ ((true = true) /\ True))))))) := by kernel_rfl
end Go.Proofs.YthbibcgghdodaaaGreatDoor.cr
