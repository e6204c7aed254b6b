/- A closed sentence, piece by piece: piece 2. -/
import Derived.Test.YthbibcgghdodaaaGreatDoorSz9
import Derived.Test.YthbibcgghdodaaaGreatDoorRows
import Derived.Test.YthbibcgghdodaaaGreatDoorLlawPrcs
set_option maxRecDepth 20000
set_option linter.unusedSimpArgs false
set_option linter.unusedVariables false
namespace Go.Proofs.YthbibcgghdodaaaGreatDoor.cr
open Go Go.Ev Go.Sy Go.RowKit
theorem lawPrc_2 (u : Unit) : mev EPd mlawPrc3 5000 3 plawPrc2 false (codeOf Tryz.prog 3 plawPrc2) ⟨mkOv sllawPrc2, 235, []⟩ none ⟨mkR rllawPrc2, 47⟩ (Sy.endsIn 0 235 wslawPrc) =
  (((((Nat.succ (nat_lit 7) + Nat.succ (nat_lit 7) * Nat.succ (nat_lit 0) <= List.length [Value.int IntKind.u8 (Int.ofNat (Nat.succ (nat_lit 129))), Value.int IntKind.u8
  (Int.ofNat (Nat.succ (nat_lit 134))), Value.int IntKind.u8 (Int.ofNat (Nat.succ (nat_lit 64))), Value.int IntKind.u8 (Int.ofNat (Nat.succ (nat_lit 0))), Value.int
  IntKind.u8 (Int.ofNat (Nat.succ (nat_lit 96))), Value.int IntKind.u8 (Int.ofNat (Nat.succ (nat_lit 131))), Value.int IntKind.u8 (Int.ofNat (Nat.succ (nat_lit 123))),
  Value.int IntKind.u8 (Int.ofNat (Nat.succ (nat_lit 135))), Value.int IntKind.u8 (Int.ofNat (Nat.succ (nat_lit 17))), Value.int IntKind.u8 (Int.ofNat (Nat.succ (nat_lit
  149))), Value.int IntKind.u8 (Int.ofNat (Nat.succ (nat_lit 20))), Value.int IntKind.u8 (Int.ofNat (Nat.succ (nat_lit 4))), Value.int IntKind.u8 (Int.ofNat (Nat.succ
  (nat_lit 178))), Value.int IntKind.u8 (Int.ofNat (Nat.succ (nat_lit 184))), Value.int IntKind.u8 (Int.ofNat (Nat.succ (nat_lit 204))), Value.int IntKind.u8 (Int.ofNat
  (Nat.succ (nat_lit 102)))] /\ Plain (List.take (Nat.succ (nat_lit 7) * Nat.succ (nat_lit 0)) (List.drop (Nat.succ (nat_lit 7)) [Value.int IntKind.u8 (Int.ofNat (Nat.succ
  (nat_lit 129))), Value.int IntKind.u8 (Int.ofNat (Nat.succ (nat_lit 134))), Value.int IntKind.u8 (Int.ofNat (Nat.succ (nat_lit 64))), Value.int IntKind.u8 (Int.ofNat
  (Nat.succ (nat_lit 0))), Value.int IntKind.u8 (Int.ofNat (Nat.succ (nat_lit 96))), Value.int IntKind.u8 (Int.ofNat (Nat.succ (nat_lit 131))), Value.int IntKind.u8
  (Int.ofNat (Nat.succ (nat_lit 123))), Value.int IntKind.u8 (Int.ofNat (Nat.succ (nat_lit 135))), Value.int IntKind.u8 (Int.ofNat (Nat.succ (nat_lit 17))), Value.int
  IntKind.u8 (Int.ofNat (Nat.succ (nat_lit 149))), Value.int IntKind.u8 (Int.ofNat (Nat.succ (nat_lit 20))), Value.int IntKind.u8 (Int.ofNat (Nat.succ (nat_lit 4))),
  Value.int IntKind.u8 (Int.ofNat (Nat.succ (nat_lit 178))), Value.int IntKind.u8 (Int.ofNat (Nat.succ (nat_lit 184))), Value.int IntKind.u8 (Int.ofNat (Nat.succ (nat_lit
  204))), Value.int IntKind.u8 (Int.ofNat (Nat.succ (nat_lit 102)))]))) /\ True) /\ ((True /\ True) /\ (True /\ True)))) /\ (∀ (y : Unit), ((True) → (∃ y2 : Unit, ((True) /\
  ((true = true) /\ True)))))) := by kernel_rfl
end Go.Proofs.YthbibcgghdodaaaGreatDoor.cr
