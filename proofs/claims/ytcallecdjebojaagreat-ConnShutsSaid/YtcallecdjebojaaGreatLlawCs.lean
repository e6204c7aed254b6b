/- ConnShuts: shut, a connection says GOAWAY with the code behind all that waits, and nothing more; whatever comes and is asked. -/
import Derived.Test.YtcallecdjebojaaGreatSz9
import Derived.Test.YtcallecdjebojaaGreatRows
import Derived.Test.YtcallecdjebojaaGreatLcsS
set_option maxRecDepth 20000
set_option linter.unusedSimpArgs false
set_option linter.unusedVariables false
namespace Go.Proofs.YtcallecdjebojaaGreat.cs
open Go Go.Ev Go.Sy Go.RowKit Go.Proofs.YtcallecdjebojaaGreat.gl Go.Proofs.YtcallecdjebojaaGreat.tk Go.Proofs.YtcallecdjebojaaGreat.ic
set_option maxHeartbeats 4000000 in
theorem S_vc (code : Int) (l : List Ax) : mcall ECs mS 3000 11 [.int .u8 code, .slice (some ⟨0, 0, none⟩) l.length 11] ⟨mkR (nums 0 [gRo enA l]), 1⟩ (retIs 1 (.bool true) [gRo enA l]) =
  (∃ g : GS, ((List.length g.1 <= 9223372036854775807 /\ ∀ (x : Ax), x ∈ GS.l g → OkX x) /\ ((0 = 0) /\ ((List.length g.1 = List.length l) /\ ((0 = 0) /\ ((g.2 =
  IntKind.wrap IntKind.i64 (iand IntKind.u8 code (15 : Int))) /\ (((17 : Int) = (17 : Int)) /\ (((0 : Int) = (0 : Int)) /\ ((Eq (α := List Value) (gC enA g.1) (gC enA l)) /\
  ((Plain (gC enA g.1)) /\ ((true = true) /\ (((2 : Int) = (2 : Int)) /\ (((65535 : Int) = (65535 : Int)) /\ (((65536 : Int) = (65536 : Int)) /\ (((4096 : Int) = (4096 :
  Int)) /\ (((2147483647 : Int) = (2147483647 : Int)) /\ (((65535 : Int) = (65535 : Int)) /\ (((16384 : Int) = (16384 : Int)) /\ (((2147483647 : Int) = (2147483647 : Int))
  /\ ((0 = 0) /\ ((17 = 17) /\ ((0 = 0) /\ ((0 = 0) /\ ((0 = 0) /\ (((65535 : Int) = (65535 : Int)) /\ (((65535 : Int) = (65535 : Int)) /\ (((5 : Int) = (5 : Int)) /\ (((1 :
  Int) = (1 : Int)) /\ ((true = true) /\ ((false = false) /\ ((true = true) /\ ((false = false) /\ ((false = false) /\ (((0 : Int) = (0 : Int)) /\ ((false = false) /\ ((Eq
  (α := List Value) ([Value.int IntKind.u8 (0 : Int), Value.int IntKind.u8 (0 : Int), Value.int IntKind.u8 (8 : Int), Value.int IntKind.u8 (7 : Int), Value.int IntKind.u8 (0
  : Int), Value.int IntKind.u8 (0 : Int), Value.int IntKind.u8 (0 : Int), Value.int IntKind.u8 (0 : Int), Value.int IntKind.u8 (0 : Int), Value.int IntKind.u8 (0 : Int),
  Value.int IntKind.u8 (0 : Int), Value.int IntKind.u8 (0 : Int), Value.int IntKind.u8 (5 : Int), Value.int IntKind.u8 g.3, Value.int IntKind.u8 g.4, Value.int IntKind.u8
  g.5, Value.int IntKind.u8 g.6]) ([Value.int IntKind.u8 (0 : Int), Value.int IntKind.u8 (0 : Int), Value.int IntKind.u8 (8 : Int), Value.int IntKind.u8 (7 : Int), Value.int
  IntKind.u8 (0 : Int), Value.int IntKind.u8 (0 : Int), Value.int IntKind.u8 (0 : Int), Value.int IntKind.u8 (0 : Int), Value.int IntKind.u8 (0 : Int), Value.int IntKind.u8
  (0 : Int), Value.int IntKind.u8 (0 : Int), Value.int IntKind.u8 (0 : Int), Value.int IntKind.u8 (5 : Int), Value.int IntKind.u8 (IntKind.wrap IntKind.u8 (ishr IntKind.i64
  (IntKind.wrap IntKind.i64 (iand IntKind.u8 code (15 : Int))) (24 : Int))), Value.int IntKind.u8 (IntKind.wrap IntKind.u8 (ishr IntKind.i64 (IntKind.wrap IntKind.i64 (iand
  IntKind.u8 code (15 : Int))) (16 : Int))), Value.int IntKind.u8 (IntKind.wrap IntKind.u8 (ishr IntKind.i64 (IntKind.wrap IntKind.i64 (iand IntKind.u8 code (15 : Int))) (8
  : Int))), Value.int IntKind.u8 (IntKind.wrap IntKind.u8 (IntKind.wrap IntKind.i64 (iand IntKind.u8 code (15 : Int))))])) /\ ((Plain [Value.int IntKind.u8 (0 : Int),
  Value.int IntKind.u8 (0 : Int), Value.int IntKind.u8 (8 : Int), Value.int IntKind.u8 (7 : Int), Value.int IntKind.u8 (0 : Int), Value.int IntKind.u8 (0 : Int), Value.int
  IntKind.u8 (0 : Int), Value.int IntKind.u8 (0 : Int), Value.int IntKind.u8 (0 : Int), Value.int IntKind.u8 (0 : Int), Value.int IntKind.u8 (0 : Int), Value.int IntKind.u8
  (0 : Int), Value.int IntKind.u8 (5 : Int), Value.int IntKind.u8 g.3, Value.int IntKind.u8 g.4, Value.int IntKind.u8 g.5, Value.int IntKind.u8 g.6]) /\ (∀ (y : Unit),
  ((True) → ((Eq (α := Option Value) (some (Value.int IntKind.u8 (0 : Int))) (some (Value.int IntKind.u8 (cellI [Value.int IntKind.u8 (0 : Int), Value.int IntKind.u8 (0 :
  Int), Value.int IntKind.u8 (8 : Int), Value.int IntKind.u8 (7 : Int), Value.int IntKind.u8 (0 : Int), Value.int IntKind.u8 (0 : Int), Value.int IntKind.u8 (0 : Int),
  Value.int IntKind.u8 (0 : Int), Value.int IntKind.u8 (0 : Int), Value.int IntKind.u8 (0 : Int), Value.int IntKind.u8 (0 : Int), Value.int IntKind.u8 (0 : Int), Value.int
  IntKind.u8 (5 : Int), Value.int IntKind.u8 g.3, Value.int IntKind.u8 g.4, Value.int IntKind.u8 g.5, Value.int IntKind.u8 g.6] 0)))) /\ ((Eq (α := Option Value) (some
  (Value.int IntKind.u8 (0 : Int))) (some (Value.int IntKind.u8 (cellI [Value.int IntKind.u8 (0 : Int), Value.int IntKind.u8 (0 : Int), Value.int IntKind.u8 (8 : Int),
  Value.int IntKind.u8 (7 : Int), Value.int IntKind.u8 (0 : Int), Value.int IntKind.u8 (0 : Int), Value.int IntKind.u8 (0 : Int), Value.int IntKind.u8 (0 : Int), Value.int
  IntKind.u8 (0 : Int), Value.int IntKind.u8 (0 : Int), Value.int IntKind.u8 (0 : Int), Value.int IntKind.u8 (0 : Int), Value.int IntKind.u8 (5 : Int), Value.int IntKind.u8
  g.3, Value.int IntKind.u8 g.4, Value.int IntKind.u8 g.5, Value.int IntKind.u8 g.6] 0)))) /\ ((Eq (α := Option Value) (some (Value.int IntKind.u8 (0 : Int))) (some
  (Value.int IntKind.u8 (cellI [Value.int IntKind.u8 (0 : Int), Value.int IntKind.u8 (0 : Int), Value.int IntKind.u8 (8 : Int), Value.int IntKind.u8 (7 : Int), Value.int
  IntKind.u8 (0 : Int), Value.int IntKind.u8 (0 : Int), Value.int IntKind.u8 (0 : Int), Value.int IntKind.u8 (0 : Int), Value.int IntKind.u8 (0 : Int), Value.int IntKind.u8
  (0 : Int), Value.int IntKind.u8 (0 : Int), Value.int IntKind.u8 (0 : Int), Value.int IntKind.u8 (5 : Int), Value.int IntKind.u8 g.3, Value.int IntKind.u8 g.4, Value.int
  IntKind.u8 g.5, Value.int IntKind.u8 g.6] 1)))) /\ ((Eq (α := Option Value) (some (Value.int IntKind.u8 (0 : Int))) (some (Value.int IntKind.u8 (cellI [Value.int
  IntKind.u8 (0 : Int), Value.int IntKind.u8 (0 : Int), Value.int IntKind.u8 (8 : Int), Value.int IntKind.u8 (7 : Int), Value.int IntKind.u8 (0 : Int), Value.int IntKind.u8
  (0 : Int), Value.int IntKind.u8 (0 : Int), Value.int IntKind.u8 (0 : Int), Value.int IntKind.u8 (0 : Int), Value.int IntKind.u8 (0 : Int), Value.int IntKind.u8 (0 : Int),
  Value.int IntKind.u8 (0 : Int), Value.int IntKind.u8 (5 : Int), Value.int IntKind.u8 g.3, Value.int IntKind.u8 g.4, Value.int IntKind.u8 g.5, Value.int IntKind.u8 g.6]
  1)))) /\ ((Eq (α := Option Value) (some (Value.int IntKind.u8 (8 : Int))) (some (Value.int IntKind.u8 (cellI [Value.int IntKind.u8 (0 : Int), Value.int IntKind.u8 (0 :
  Int), Value.int IntKind.u8 (8 : Int), Value.int IntKind.u8 (7 : Int), Value.int IntKind.u8 (0 : Int), Value.int IntKind.u8 (0 : Int), Value.int IntKind.u8 (0 : Int),
  Value.int IntKind.u8 (0 : Int), Value.int IntKind.u8 (0 : Int), Value.int IntKind.u8 (0 : Int), Value.int IntKind.u8 (0 : Int), Value.int IntKind.u8 (0 : Int), Value.int
  IntKind.u8 (5 : Int), Value.int IntKind.u8 g.3, Value.int IntKind.u8 g.4, Value.int IntKind.u8 g.5, Value.int IntKind.u8 g.6] 2)))) /\ ((Eq (α := Option Value) (some
  (Value.int IntKind.u8 (8 : Int))) (some (Value.int IntKind.u8 (cellI [Value.int IntKind.u8 (0 : Int), Value.int IntKind.u8 (0 : Int), Value.int IntKind.u8 (8 : Int),
  Value.int IntKind.u8 (7 : Int), Value.int IntKind.u8 (0 : Int), Value.int IntKind.u8 (0 : Int), Value.int IntKind.u8 (0 : Int), Value.int IntKind.u8 (0 : Int), Value.int
  IntKind.u8 (0 : Int), Value.int IntKind.u8 (0 : Int), Value.int IntKind.u8 (0 : Int), Value.int IntKind.u8 (0 : Int), Value.int IntKind.u8 (5 : Int), Value.int IntKind.u8
  g.3, Value.int IntKind.u8 g.4, Value.int IntKind.u8 g.5, Value.int IntKind.u8 g.6] 2)))) /\ ((Eq (α := Option Value) (some (Value.int IntKind.u8 (7 : Int))) (some
  (Value.int IntKind.u8 (cellI [Value.int IntKind.u8 (0 : Int), Value.int IntKind.u8 (0 : Int), Value.int IntKind.u8 (8 : Int), Value.int IntKind.u8 (7 : Int), Value.int
  IntKind.u8 (0 : Int), Value.int IntKind.u8 (0 : Int), Value.int IntKind.u8 (0 : Int), Value.int IntKind.u8 (0 : Int), Value.int IntKind.u8 (0 : Int), Value.int IntKind.u8
  (0 : Int), Value.int IntKind.u8 (0 : Int), Value.int IntKind.u8 (0 : Int), Value.int IntKind.u8 (5 : Int), Value.int IntKind.u8 g.3, Value.int IntKind.u8 g.4, Value.int
  IntKind.u8 g.5, Value.int IntKind.u8 g.6] 3)))) /\ ((Eq (α := Option Value) (some (Value.int IntKind.u8 (7 : Int))) (some (Value.int IntKind.u8 (cellI [Value.int
  IntKind.u8 (0 : Int), Value.int IntKind.u8 (0 : Int), Value.int IntKind.u8 (8 : Int), Value.int IntKind.u8 (7 : Int), Value.int IntKind.u8 (0 : Int), Value.int IntKind.u8
  (0 : Int), Value.int IntKind.u8 (0 : Int), Value.int IntKind.u8 (0 : Int), Value.int IntKind.u8 (0 : Int), Value.int IntKind.u8 (0 : Int), Value.int IntKind.u8 (0 : Int),
  Value.int IntKind.u8 (0 : Int), Value.int IntKind.u8 (5 : Int), Value.int IntKind.u8 g.3, Value.int IntKind.u8 g.4, Value.int IntKind.u8 g.5, Value.int IntKind.u8 g.6]
  3)))) /\ ((Eq (α := Option Value) (some (Value.int IntKind.u8 (0 : Int))) (some (Value.int IntKind.u8 (cellI [Value.int IntKind.u8 (0 : Int), Value.int IntKind.u8 (0 :
  Int), Value.int IntKind.u8 (8 : Int), Value.int IntKind.u8 (7 : Int), Value.int IntKind.u8 (0 : Int), Value.int IntKind.u8 (0 : Int), Value.int IntKind.u8 (0 : Int),
  Value.int IntKind.u8 (0 : Int), Value.int IntKind.u8 (0 : Int), Value.int IntKind.u8 (0 : Int), Value.int IntKind.u8 (0 : Int), Value.int IntKind.u8 (0 : Int), Value.int
  IntKind.u8 (5 : Int), Value.int IntKind.u8 g.3, Value.int IntKind.u8 g.4, Value.int IntKind.u8 g.5, Value.int IntKind.u8 g.6] 4)))) /\ ((Eq (α := Option Value) (some
  (Value.int IntKind.u8 (0 : Int))) (some (Value.int IntKind.u8 (cellI [Value.int IntKind.u8 (0 : Int), Value.int IntKind.u8 (0 : Int), Value.int IntKind.u8 (8 : Int),
  Value.int IntKind.u8 (7 : Int), Value.int IntKind.u8 (0 : Int), Value.int IntKind.u8 (0 : Int), Value.int IntKind.u8 (0 : Int), Value.int IntKind.u8 (0 : Int), Value.int
  IntKind.u8 (0 : Int), Value.int IntKind.u8 (0 : Int), Value.int IntKind.u8 (0 : Int), Value.int IntKind.u8 (0 : Int), Value.int IntKind.u8 (5 : Int), Value.int IntKind.u8
  g.3, Value.int IntKind.u8 g.4, Value.int IntKind.u8 g.5, Value.int IntKind.u8 g.6] 4)))) /\ ((Eq (α := Option Value) (some (Value.int IntKind.u8 (0 : Int))) (some
  (Value.int IntKind.u8 (cellI [Value.int IntKind.u8 (0 : Int), Value.int IntKind.u8 (0 : Int), Value.int IntKind.u8 (8 : Int), Value.int IntKind.u8 (7 : Int), Value.int
  IntKind.u8 (0 : Int), Value.int IntKind.u8 (0 : Int), Value.int IntKind.u8 (0 : Int), Value.int IntKind.u8 (0 : Int), Value.int IntKind.u8 (0 : Int), Value.int IntKind.u8
  (0 : Int), Value.int IntKind.u8 (0 : Int), Value.int IntKind.u8 (0 : Int), Value.int IntKind.u8 (5 : Int), Value.int IntKind.u8 g.3, Value.int IntKind.u8 g.4, Value.int
  IntKind.u8 g.5, Value.int IntKind.u8 g.6] 5)))) /\ ((Eq (α := Option Value) (some (Value.int IntKind.u8 (0 : Int))) (some (Value.int IntKind.u8 (cellI [Value.int
  IntKind.u8 (0 : Int), Value.int IntKind.u8 (0 : Int), Value.int IntKind.u8 (8 : Int), Value.int IntKind.u8 (7 : Int), Value.int IntKind.u8 (0 : Int), Value.int IntKind.u8
  (0 : Int), Value.int IntKind.u8 (0 : Int), Value.int IntKind.u8 (0 : Int), Value.int IntKind.u8 (0 : Int), Value.int IntKind.u8 (0 : Int), Value.int IntKind.u8 (0 : Int),
  Value.int IntKind.u8 (0 : Int), Value.int IntKind.u8 (5 : Int), Value.int IntKind.u8 g.3, Value.int IntKind.u8 g.4, Value.int IntKind.u8 g.5, Value.int IntKind.u8 g.6]
  5)))) /\ ((Eq (α := Option Value) (some (Value.int IntKind.u8 (0 : Int))) (some (Value.int IntKind.u8 (cellI [Value.int IntKind.u8 (0 : Int), Value.int IntKind.u8 (0 :
  Int), Value.int IntKind.u8 (8 : Int), Value.int IntKind.u8 (7 : Int), Value.int IntKind.u8 (0 : Int), Value.int IntKind.u8 (0 : Int), Value.int IntKind.u8 (0 : Int),
  Value.int IntKind.u8 (0 : Int), Value.int IntKind.u8 (0 : Int), Value.int IntKind.u8 (0 : Int), Value.int IntKind.u8 (0 : Int), Value.int IntKind.u8 (0 : Int), Value.int
  IntKind.u8 (5 : Int), Value.int IntKind.u8 g.3, Value.int IntKind.u8 g.4, Value.int IntKind.u8 g.5, Value.int IntKind.u8 g.6] 6)))) /\ ((Eq (α := Option Value) (some
  (Value.int IntKind.u8 (0 : Int))) (some (Value.int IntKind.u8 (cellI [Value.int IntKind.u8 (0 : Int), Value.int IntKind.u8 (0 : Int), Value.int IntKind.u8 (8 : Int),
  Value.int IntKind.u8 (7 : Int), Value.int IntKind.u8 (0 : Int), Value.int IntKind.u8 (0 : Int), Value.int IntKind.u8 (0 : Int), Value.int IntKind.u8 (0 : Int), Value.int
  IntKind.u8 (0 : Int), Value.int IntKind.u8 (0 : Int), Value.int IntKind.u8 (0 : Int), Value.int IntKind.u8 (0 : Int), Value.int IntKind.u8 (5 : Int), Value.int IntKind.u8
  g.3, Value.int IntKind.u8 g.4, Value.int IntKind.u8 g.5, Value.int IntKind.u8 g.6] 6)))) /\ ((Eq (α := Option Value) (some (Value.int IntKind.u8 (0 : Int))) (some
  (Value.int IntKind.u8 (cellI [Value.int IntKind.u8 (0 : Int), Value.int IntKind.u8 (0 : Int), Value.int IntKind.u8 (8 : Int), Value.int IntKind.u8 (7 : Int), Value.int
  IntKind.u8 (0 : Int), Value.int IntKind.u8 (0 : Int), Value.int IntKind.u8 (0 : Int), Value.int IntKind.u8 (0 : Int), Value.int IntKind.u8 (0 : Int), Value.int IntKind.u8
  (0 : Int), Value.int IntKind.u8 (0 : Int), Value.int IntKind.u8 (0 : Int), Value.int IntKind.u8 (5 : Int), Value.int IntKind.u8 g.3, Value.int IntKind.u8 g.4, Value.int
  IntKind.u8 g.5, Value.int IntKind.u8 g.6] 7)))) /\ ((Eq (α := Option Value) (some (Value.int IntKind.u8 (0 : Int))) (some (Value.int IntKind.u8 (cellI [Value.int
  IntKind.u8 (0 : Int), Value.int IntKind.u8 (0 : Int), Value.int IntKind.u8 (8 : Int), Value.int IntKind.u8 (7 : Int), Value.int IntKind.u8 (0 : Int), Value.int IntKind.u8
  (0 : Int), Value.int IntKind.u8 (0 : Int), Value.int IntKind.u8 (0 : Int), Value.int IntKind.u8 (0 : Int), Value.int IntKind.u8 (0 : Int), Value.int IntKind.u8 (0 : Int),
  Value.int IntKind.u8 (0 : Int), Value.int IntKind.u8 (5 : Int), Value.int IntKind.u8 g.3, Value.int IntKind.u8 g.4, Value.int IntKind.u8 g.5, Value.int IntKind.u8 g.6]
  7)))) /\ ((Eq (α := Option Value) (some (Value.int IntKind.u8 (0 : Int))) (some (Value.int IntKind.u8 (cellI [Value.int IntKind.u8 (0 : Int), Value.int IntKind.u8 (0 :
  Int), Value.int IntKind.u8 (8 : Int), Value.int IntKind.u8 (7 : Int), Value.int IntKind.u8 (0 : Int), Value.int IntKind.u8 (0 : Int), Value.int IntKind.u8 (0 : Int),
  Value.int IntKind.u8 (0 : Int), Value.int IntKind.u8 (0 : Int), Value.int IntKind.u8 (0 : Int), Value.int IntKind.u8 (0 : Int), Value.int IntKind.u8 (0 : Int), Value.int
  IntKind.u8 (5 : Int), Value.int IntKind.u8 g.3, Value.int IntKind.u8 g.4, Value.int IntKind.u8 g.5, Value.int IntKind.u8 g.6] 8)))) /\ ((Eq (α := Option Value) (some
  (Value.int IntKind.u8 (0 : Int))) (some (Value.int IntKind.u8 (cellI [Value.int IntKind.u8 (0 : Int), Value.int IntKind.u8 (0 : Int), Value.int IntKind.u8 (8 : Int),
  Value.int IntKind.u8 (7 : Int), Value.int IntKind.u8 (0 : Int), Value.int IntKind.u8 (0 : Int), Value.int IntKind.u8 (0 : Int), Value.int IntKind.u8 (0 : Int), Value.int
  IntKind.u8 (0 : Int), Value.int IntKind.u8 (0 : Int), Value.int IntKind.u8 (0 : Int), Value.int IntKind.u8 (0 : Int), Value.int IntKind.u8 (5 : Int), Value.int IntKind.u8
  g.3, Value.int IntKind.u8 g.4, Value.int IntKind.u8 g.5, Value.int IntKind.u8 g.6] 8)))) /\ ((Eq (α := Option Value) (some (Value.int IntKind.u8 (0 : Int))) (some
  (Value.int IntKind.u8 (cellI [Value.int IntKind.u8 (0 : Int), Value.int IntKind.u8 (0 : Int), Value.int IntKind.u8 (8 : Int), Value.int IntKind.u8 (7 : Int), Value.int
  IntKind.u8 (0 : Int), Value.int IntKind.u8 (0 : Int), Value.int IntKind.u8 (0 : Int), Value.int IntKind.u8 (0 : Int), Value.int IntKind.u8 (0 : Int), Value.int IntKind.u8
  (0 : Int), Value.int IntKind.u8 (0 : Int), Value.int IntKind.u8 (0 : Int), Value.int IntKind.u8 (5 : Int), Value.int IntKind.u8 g.3, Value.int IntKind.u8 g.4, Value.int
  IntKind.u8 g.5, Value.int IntKind.u8 g.6] 9)))) /\ ((Eq (α := Option Value) (some (Value.int IntKind.u8 (0 : Int))) (some (Value.int IntKind.u8 (cellI [Value.int
  IntKind.u8 (0 : Int), Value.int IntKind.u8 (0 : Int), Value.int IntKind.u8 (8 : Int), Value.int IntKind.u8 (7 : Int), Value.int IntKind.u8 (0 : Int), Value.int IntKind.u8
  (0 : Int), Value.int IntKind.u8 (0 : Int), Value.int IntKind.u8 (0 : Int), Value.int IntKind.u8 (0 : Int), Value.int IntKind.u8 (0 : Int), Value.int IntKind.u8 (0 : Int),
  Value.int IntKind.u8 (0 : Int), Value.int IntKind.u8 (5 : Int), Value.int IntKind.u8 g.3, Value.int IntKind.u8 g.4, Value.int IntKind.u8 g.5, Value.int IntKind.u8 g.6]
  9)))) /\ ((Eq (α := Option Value) (some (Value.int IntKind.u8 (0 : Int))) (some (Value.int IntKind.u8 (cellI [Value.int IntKind.u8 (0 : Int), Value.int IntKind.u8 (0 :
  Int), Value.int IntKind.u8 (8 : Int), Value.int IntKind.u8 (7 : Int), Value.int IntKind.u8 (0 : Int), Value.int IntKind.u8 (0 : Int), Value.int IntKind.u8 (0 : Int),
  Value.int IntKind.u8 (0 : Int), Value.int IntKind.u8 (0 : Int), Value.int IntKind.u8 (0 : Int), Value.int IntKind.u8 (0 : Int), Value.int IntKind.u8 (0 : Int), Value.int
  IntKind.u8 (5 : Int), Value.int IntKind.u8 g.3, Value.int IntKind.u8 g.4, Value.int IntKind.u8 g.5, Value.int IntKind.u8 g.6] 10)))) /\ ((Eq (α := Option Value) (some
  (Value.int IntKind.u8 (0 : Int))) (some (Value.int IntKind.u8 (cellI [Value.int IntKind.u8 (0 : Int), Value.int IntKind.u8 (0 : Int), Value.int IntKind.u8 (8 : Int),
  Value.int IntKind.u8 (7 : Int), Value.int IntKind.u8 (0 : Int), Value.int IntKind.u8 (0 : Int), Value.int IntKind.u8 (0 : Int), Value.int IntKind.u8 (0 : Int), Value.int
  IntKind.u8 (0 : Int), Value.int IntKind.u8 (0 : Int), Value.int IntKind.u8 (0 : Int), Value.int IntKind.u8 (0 : Int), Value.int IntKind.u8 (5 : Int), Value.int IntKind.u8
  g.3, Value.int IntKind.u8 g.4, Value.int IntKind.u8 g.5, Value.int IntKind.u8 g.6] 10)))) /\ ((Eq (α := Option Value) (some (Value.int IntKind.u8 (0 : Int))) (some
  (Value.int IntKind.u8 (cellI [Value.int IntKind.u8 (0 : Int), Value.int IntKind.u8 (0 : Int), Value.int IntKind.u8 (8 : Int), Value.int IntKind.u8 (7 : Int), Value.int
  IntKind.u8 (0 : Int), Value.int IntKind.u8 (0 : Int), Value.int IntKind.u8 (0 : Int), Value.int IntKind.u8 (0 : Int), Value.int IntKind.u8 (0 : Int), Value.int IntKind.u8
  (0 : Int), Value.int IntKind.u8 (0 : Int), Value.int IntKind.u8 (0 : Int), Value.int IntKind.u8 (5 : Int), Value.int IntKind.u8 g.3, Value.int IntKind.u8 g.4, Value.int
  IntKind.u8 g.5, Value.int IntKind.u8 g.6] 11)))) /\ ((Eq (α := Option Value) (some (Value.int IntKind.u8 (0 : Int))) (some (Value.int IntKind.u8 (cellI [Value.int
  IntKind.u8 (0 : Int), Value.int IntKind.u8 (0 : Int), Value.int IntKind.u8 (8 : Int), Value.int IntKind.u8 (7 : Int), Value.int IntKind.u8 (0 : Int), Value.int IntKind.u8
  (0 : Int), Value.int IntKind.u8 (0 : Int), Value.int IntKind.u8 (0 : Int), Value.int IntKind.u8 (0 : Int), Value.int IntKind.u8 (0 : Int), Value.int IntKind.u8 (0 : Int),
  Value.int IntKind.u8 (0 : Int), Value.int IntKind.u8 (5 : Int), Value.int IntKind.u8 g.3, Value.int IntKind.u8 g.4, Value.int IntKind.u8 g.5, Value.int IntKind.u8 g.6]
  11)))) /\ ((Eq (α := Option Value) (some (Value.int IntKind.u8 (5 : Int))) (some (Value.int IntKind.u8 (cellI [Value.int IntKind.u8 (0 : Int), Value.int IntKind.u8 (0 :
  Int), Value.int IntKind.u8 (8 : Int), Value.int IntKind.u8 (7 : Int), Value.int IntKind.u8 (0 : Int), Value.int IntKind.u8 (0 : Int), Value.int IntKind.u8 (0 : Int),
  Value.int IntKind.u8 (0 : Int), Value.int IntKind.u8 (0 : Int), Value.int IntKind.u8 (0 : Int), Value.int IntKind.u8 (0 : Int), Value.int IntKind.u8 (0 : Int), Value.int
  IntKind.u8 (5 : Int), Value.int IntKind.u8 g.3, Value.int IntKind.u8 g.4, Value.int IntKind.u8 g.5, Value.int IntKind.u8 g.6] 12)))) /\ ((Eq (α := Option Value) (some
  (Value.int IntKind.u8 (5 : Int))) (some (Value.int IntKind.u8 (cellI [Value.int IntKind.u8 (0 : Int), Value.int IntKind.u8 (0 : Int), Value.int IntKind.u8 (8 : Int),
  Value.int IntKind.u8 (7 : Int), Value.int IntKind.u8 (0 : Int), Value.int IntKind.u8 (0 : Int), Value.int IntKind.u8 (0 : Int), Value.int IntKind.u8 (0 : Int), Value.int
  IntKind.u8 (0 : Int), Value.int IntKind.u8 (0 : Int), Value.int IntKind.u8 (0 : Int), Value.int IntKind.u8 (0 : Int), Value.int IntKind.u8 (5 : Int), Value.int IntKind.u8
  g.3, Value.int IntKind.u8 g.4, Value.int IntKind.u8 g.5, Value.int IntKind.u8 g.6] 12)))) /\ ((Eq (α := Option Value) (some (Value.int IntKind.u8 g.3)) (some (Value.int
  IntKind.u8 (cellI [Value.int IntKind.u8 (0 : Int), Value.int IntKind.u8 (0 : Int), Value.int IntKind.u8 (8 : Int), Value.int IntKind.u8 (7 : Int), Value.int IntKind.u8 (0
  : Int), Value.int IntKind.u8 (0 : Int), Value.int IntKind.u8 (0 : Int), Value.int IntKind.u8 (0 : Int), Value.int IntKind.u8 (0 : Int), Value.int IntKind.u8 (0 : Int),
  Value.int IntKind.u8 (0 : Int), Value.int IntKind.u8 (0 : Int), Value.int IntKind.u8 (5 : Int), Value.int IntKind.u8 g.3, Value.int IntKind.u8 g.4, Value.int IntKind.u8
  g.5, Value.int IntKind.u8 g.6] 13)))) /\ ((Eq (α := Option Value) (some (Value.int IntKind.u8 g.3)) (some (Value.int IntKind.u8 (cellI [Value.int IntKind.u8 (0 : Int),
  Value.int IntKind.u8 (0 : Int), Value.int IntKind.u8 (8 : Int), Value.int IntKind.u8 (7 : Int), Value.int IntKind.u8 (0 : Int), Value.int IntKind.u8 (0 : Int), Value.int
  IntKind.u8 (0 : Int), Value.int IntKind.u8 (0 : Int), Value.int IntKind.u8 (0 : Int), Value.int IntKind.u8 (0 : Int), Value.int IntKind.u8 (0 : Int), Value.int IntKind.u8
  (0 : Int), Value.int IntKind.u8 (5 : Int), Value.int IntKind.u8 g.3, Value.int IntKind.u8 g.4, Value.int IntKind.u8 g.5, Value.int IntKind.u8 g.6] 13)))) /\ (br (veq 20
  (Value.int IntKind.u8 (cellI [Value.int IntKind.u8 (0 : Int), Value.int IntKind.u8 (0 : Int), Value.int IntKind.u8 (8 : Int), Value.int IntKind.u8 (7 : Int), Value.int
  IntKind.u8 (0 : Int), Value.int IntKind.u8 (0 : Int), Value.int IntKind.u8 (0 : Int), Value.int IntKind.u8 (0 : Int), Value.int IntKind.u8 (0 : Int), Value.int IntKind.u8
  (0 : Int), Value.int IntKind.u8 (0 : Int), Value.int IntKind.u8 (0 : Int), Value.int IntKind.u8 (5 : Int), Value.int IntKind.u8 g.3, Value.int IntKind.u8 g.4, Value.int
  IntKind.u8 g.5, Value.int IntKind.u8 g.6] 13)) (Value.int IntKind.u8 (cellI [Value.int IntKind.u8 (0 : Int), Value.int IntKind.u8 (0 : Int), Value.int IntKind.u8 (8 :
  Int), Value.int IntKind.u8 (7 : Int), Value.int IntKind.u8 (0 : Int), Value.int IntKind.u8 (0 : Int), Value.int IntKind.u8 (0 : Int), Value.int IntKind.u8 (0 : Int),
  Value.int IntKind.u8 (0 : Int), Value.int IntKind.u8 (0 : Int), Value.int IntKind.u8 (0 : Int), Value.int IntKind.u8 (0 : Int), Value.int IntKind.u8 (5 : Int), Value.int
  IntKind.u8 g.3, Value.int IntKind.u8 g.4, Value.int IntKind.u8 g.5, Value.int IntKind.u8 g.6] 13))) (br (cellI [Value.int IntKind.u8 (0 : Int), Value.int IntKind.u8 (0 :
  Int), Value.int IntKind.u8 (8 : Int), Value.int IntKind.u8 (7 : Int), Value.int IntKind.u8 (0 : Int), Value.int IntKind.u8 (0 : Int), Value.int IntKind.u8 (0 : Int),
  Value.int IntKind.u8 (0 : Int), Value.int IntKind.u8 (0 : Int), Value.int IntKind.u8 (0 : Int), Value.int IntKind.u8 (0 : Int), Value.int IntKind.u8 (0 : Int), Value.int
  IntKind.u8 (5 : Int), Value.int IntKind.u8 g.3, Value.int IntKind.u8 g.4, Value.int IntKind.u8 g.5, Value.int IntKind.u8 g.6] 13 != (0 : Int)) ((true = false) /\ ((Eq (α
  := List Value) (gC enA l) (gC enA g.1)) /\ ((Plain (gC enA l)) /\ True))) ((Eq (α := Option Value) (some (Value.int IntKind.u8 g.4)) (some (Value.int IntKind.u8 (cellI
  [Value.int IntKind.u8 (0 : Int), Value.int IntKind.u8 (0 : Int), Value.int IntKind.u8 (8 : Int), Value.int IntKind.u8 (7 : Int), Value.int IntKind.u8 (0 : Int), Value.int
  IntKind.u8 (0 : Int), Value.int IntKind.u8 (0 : Int), Value.int IntKind.u8 (0 : Int), Value.int IntKind.u8 (0 : Int), Value.int IntKind.u8 (0 : Int), Value.int IntKind.u8
  (0 : Int), Value.int IntKind.u8 (0 : Int), Value.int IntKind.u8 (5 : Int), Value.int IntKind.u8 g.3, Value.int IntKind.u8 g.4, Value.int IntKind.u8 g.5, Value.int
  IntKind.u8 g.6] 14)))) /\ ((Eq (α := Option Value) (some (Value.int IntKind.u8 g.4)) (some (Value.int IntKind.u8 (cellI [Value.int IntKind.u8 (0 : Int), Value.int
  IntKind.u8 (0 : Int), Value.int IntKind.u8 (8 : Int), Value.int IntKind.u8 (7 : Int), Value.int IntKind.u8 (0 : Int), Value.int IntKind.u8 (0 : Int), Value.int IntKind.u8
  (0 : Int), Value.int IntKind.u8 (0 : Int), Value.int IntKind.u8 (0 : Int), Value.int IntKind.u8 (0 : Int), Value.int IntKind.u8 (0 : Int), Value.int IntKind.u8 (0 : Int),
  Value.int IntKind.u8 (5 : Int), Value.int IntKind.u8 g.3, Value.int IntKind.u8 g.4, Value.int IntKind.u8 g.5, Value.int IntKind.u8 g.6] 14)))) /\ (br (veq 20 (Value.int
  IntKind.u8 (cellI [Value.int IntKind.u8 (0 : Int), Value.int IntKind.u8 (0 : Int), Value.int IntKind.u8 (8 : Int), Value.int IntKind.u8 (7 : Int), Value.int IntKind.u8 (0
  : Int), Value.int IntKind.u8 (0 : Int), Value.int IntKind.u8 (0 : Int), Value.int IntKind.u8 (0 : Int), Value.int IntKind.u8 (0 : Int), Value.int IntKind.u8 (0 : Int),
  Value.int IntKind.u8 (0 : Int), Value.int IntKind.u8 (0 : Int), Value.int IntKind.u8 (5 : Int), Value.int IntKind.u8 g.3, Value.int IntKind.u8 g.4, Value.int IntKind.u8
  g.5, Value.int IntKind.u8 g.6] 14)) (Value.int IntKind.u8 (cellI [Value.int IntKind.u8 (0 : Int), Value.int IntKind.u8 (0 : Int), Value.int IntKind.u8 (8 : Int), Value.int
  IntKind.u8 (7 : Int), Value.int IntKind.u8 (0 : Int), Value.int IntKind.u8 (0 : Int), Value.int IntKind.u8 (0 : Int), Value.int IntKind.u8 (0 : Int), Value.int IntKind.u8
  (0 : Int), Value.int IntKind.u8 (0 : Int), Value.int IntKind.u8 (0 : Int), Value.int IntKind.u8 (0 : Int), Value.int IntKind.u8 (5 : Int), Value.int IntKind.u8 g.3,
  Value.int IntKind.u8 g.4, Value.int IntKind.u8 g.5, Value.int IntKind.u8 g.6] 14))) (br (cellI [Value.int IntKind.u8 (0 : Int), Value.int IntKind.u8 (0 : Int), Value.int
  IntKind.u8 (8 : Int), Value.int IntKind.u8 (7 : Int), Value.int IntKind.u8 (0 : Int), Value.int IntKind.u8 (0 : Int), Value.int IntKind.u8 (0 : Int), Value.int IntKind.u8
  (0 : Int), Value.int IntKind.u8 (0 : Int), Value.int IntKind.u8 (0 : Int), Value.int IntKind.u8 (0 : Int), Value.int IntKind.u8 (0 : Int), Value.int IntKind.u8 (5 : Int),
  Value.int IntKind.u8 g.3, Value.int IntKind.u8 g.4, Value.int IntKind.u8 g.5, Value.int IntKind.u8 g.6] 14 != (0 : Int)) ((true = false) /\ ((Eq (α := List Value) (gC enA
  l) (gC enA g.1)) /\ ((Plain (gC enA l)) /\ True))) ((Eq (α := Option Value) (some (Value.int IntKind.u8 g.5)) (some (Value.int IntKind.u8 (cellI [Value.int IntKind.u8 (0 :
  Int), Value.int IntKind.u8 (0 : Int), Value.int IntKind.u8 (8 : Int), Value.int IntKind.u8 (7 : Int), Value.int IntKind.u8 (0 : Int), Value.int IntKind.u8 (0 : Int),
  Value.int IntKind.u8 (0 : Int), Value.int IntKind.u8 (0 : Int), Value.int IntKind.u8 (0 : Int), Value.int IntKind.u8 (0 : Int), Value.int IntKind.u8 (0 : Int), Value.int
  IntKind.u8 (0 : Int), Value.int IntKind.u8 (5 : Int), Value.int IntKind.u8 g.3, Value.int IntKind.u8 g.4, Value.int IntKind.u8 g.5, Value.int IntKind.u8 g.6] 15)))) /\
  ((Eq (α := Option Value) (some (Value.int IntKind.u8 g.5)) (some (Value.int IntKind.u8 (cellI [Value.int IntKind.u8 (0 : Int), Value.int IntKind.u8 (0 : Int), Value.int
  IntKind.u8 (8 : Int), Value.int IntKind.u8 (7 : Int), Value.int IntKind.u8 (0 : Int), Value.int IntKind.u8 (0 : Int), Value.int IntKind.u8 (0 : Int), Value.int IntKind.u8
  (0 : Int), Value.int IntKind.u8 (0 : Int), Value.int IntKind.u8 (0 : Int), Value.int IntKind.u8 (0 : Int), Value.int IntKind.u8 (0 : Int), Value.int IntKind.u8 (5 : Int),
  Value.int IntKind.u8 g.3, Value.int IntKind.u8 g.4, Value.int IntKind.u8 g.5, Value.int IntKind.u8 g.6] 15)))) /\ (br (veq 20 (Value.int IntKind.u8 (cellI [Value.int
  IntKind.u8 (0 : Int), Value.int IntKind.u8 (0 : Int), Value.int IntKind.u8 (8 : Int), Value.int IntKind.u8 (7 : Int), Value.int IntKind.u8 (0 : Int), Value.int IntKind.u8
  (0 : Int), Value.int IntKind.u8 (0 : Int), Value.int IntKind.u8 (0 : Int), Value.int IntKind.u8 (0 : Int), Value.int IntKind.u8 (0 : Int), Value.int IntKind.u8 (0 : Int),
  Value.int IntKind.u8 (0 : Int), Value.int IntKind.u8 (5 : Int), Value.int IntKind.u8 g.3, Value.int IntKind.u8 g.4, Value.int IntKind.u8 g.5, Value.int IntKind.u8 g.6]
  15)) (Value.int IntKind.u8 (cellI [Value.int IntKind.u8 (0 : Int), Value.int IntKind.u8 (0 : Int), Value.int IntKind.u8 (8 : Int), Value.int IntKind.u8 (7 : Int),
  Value.int IntKind.u8 (0 : Int), Value.int IntKind.u8 (0 : Int), Value.int IntKind.u8 (0 : Int), Value.int IntKind.u8 (0 : Int), Value.int IntKind.u8 (0 : Int), Value.int
  IntKind.u8 (0 : Int), Value.int IntKind.u8 (0 : Int), Value.int IntKind.u8 (0 : Int), Value.int IntKind.u8 (5 : Int), Value.int IntKind.u8 g.3, Value.int IntKind.u8 g.4,
  Value.int IntKind.u8 g.5, Value.int IntKind.u8 g.6] 15))) (br (cellI [Value.int IntKind.u8 (0 : Int), Value.int IntKind.u8 (0 : Int), Value.int IntKind.u8 (8 : Int),
  Value.int IntKind.u8 (7 : Int), Value.int IntKind.u8 (0 : Int), Value.int IntKind.u8 (0 : Int), Value.int IntKind.u8 (0 : Int), Value.int IntKind.u8 (0 : Int), Value.int
  IntKind.u8 (0 : Int), Value.int IntKind.u8 (0 : Int), Value.int IntKind.u8 (0 : Int), Value.int IntKind.u8 (0 : Int), Value.int IntKind.u8 (5 : Int), Value.int IntKind.u8
  g.3, Value.int IntKind.u8 g.4, Value.int IntKind.u8 g.5, Value.int IntKind.u8 g.6] 15 != (0 : Int)) ((true = false) /\ ((Eq (α := List Value) (gC enA l) (gC enA g.1)) /\
  ((Plain (gC enA l)) /\ True))) ((Eq (α := Option Value) (some (Value.int IntKind.u8 g.6)) (some (Value.int IntKind.u8 (cellI [Value.int IntKind.u8 (0 : Int), Value.int
  IntKind.u8 (0 : Int), Value.int IntKind.u8 (8 : Int), Value.int IntKind.u8 (7 : Int), Value.int IntKind.u8 (0 : Int), Value.int IntKind.u8 (0 : Int), Value.int IntKind.u8
  (0 : Int), Value.int IntKind.u8 (0 : Int), Value.int IntKind.u8 (0 : Int), Value.int IntKind.u8 (0 : Int), Value.int IntKind.u8 (0 : Int), Value.int IntKind.u8 (0 : Int),
  Value.int IntKind.u8 (5 : Int), Value.int IntKind.u8 g.3, Value.int IntKind.u8 g.4, Value.int IntKind.u8 g.5, Value.int IntKind.u8 g.6] 16)))) /\ ((Eq (α := Option Value)
  (some (Value.int IntKind.u8 g.6)) (some (Value.int IntKind.u8 (cellI [Value.int IntKind.u8 (0 : Int), Value.int IntKind.u8 (0 : Int), Value.int IntKind.u8 (8 : Int),
  Value.int IntKind.u8 (7 : Int), Value.int IntKind.u8 (0 : Int), Value.int IntKind.u8 (0 : Int), Value.int IntKind.u8 (0 : Int), Value.int IntKind.u8 (0 : Int), Value.int
  IntKind.u8 (0 : Int), Value.int IntKind.u8 (0 : Int), Value.int IntKind.u8 (0 : Int), Value.int IntKind.u8 (0 : Int), Value.int IntKind.u8 (5 : Int), Value.int IntKind.u8
  g.3, Value.int IntKind.u8 g.4, Value.int IntKind.u8 g.5, Value.int IntKind.u8 g.6] 16)))) /\ (br (veq 20 (Value.int IntKind.u8 (cellI [Value.int IntKind.u8 (0 : Int),
  Value.int IntKind.u8 (0 : Int), Value.int IntKind.u8 (8 : Int), Value.int IntKind.u8 (7 : Int), Value.int IntKind.u8 (0 : Int), Value.int IntKind.u8 (0 : Int), Value.int
  IntKind.u8 (0 : Int), Value.int IntKind.u8 (0 : Int), Value.int IntKind.u8 (0 : Int), Value.int IntKind.u8 (0 : Int), Value.int IntKind.u8 (0 : Int), Value.int IntKind.u8
  (0 : Int), Value.int IntKind.u8 (5 : Int), Value.int IntKind.u8 g.3, Value.int IntKind.u8 g.4, Value.int IntKind.u8 g.5, Value.int IntKind.u8 g.6] 16)) (Value.int
  IntKind.u8 (cellI [Value.int IntKind.u8 (0 : Int), Value.int IntKind.u8 (0 : Int), Value.int IntKind.u8 (8 : Int), Value.int IntKind.u8 (7 : Int), Value.int IntKind.u8 (0
  : Int), Value.int IntKind.u8 (0 : Int), Value.int IntKind.u8 (0 : Int), Value.int IntKind.u8 (0 : Int), Value.int IntKind.u8 (0 : Int), Value.int IntKind.u8 (0 : Int),
  Value.int IntKind.u8 (0 : Int), Value.int IntKind.u8 (0 : Int), Value.int IntKind.u8 (5 : Int), Value.int IntKind.u8 g.3, Value.int IntKind.u8 g.4, Value.int IntKind.u8
  g.5, Value.int IntKind.u8 g.6] 16))) (br (veq 20 (Value.int IntKind.u8 (IntKind.wrap IntKind.u8 g.2)) (Value.int IntKind.u8 (IntKind.wrap IntKind.u8 g.2))) (br (cellI
  [Value.int IntKind.u8 (0 : Int), Value.int IntKind.u8 (0 : Int), Value.int IntKind.u8 (8 : Int), Value.int IntKind.u8 (7 : Int), Value.int IntKind.u8 (0 : Int), Value.int
  IntKind.u8 (0 : Int), Value.int IntKind.u8 (0 : Int), Value.int IntKind.u8 (0 : Int), Value.int IntKind.u8 (0 : Int), Value.int IntKind.u8 (0 : Int), Value.int IntKind.u8
  (0 : Int), Value.int IntKind.u8 (0 : Int), Value.int IntKind.u8 (5 : Int), Value.int IntKind.u8 g.3, Value.int IntKind.u8 g.4, Value.int IntKind.u8 g.5, Value.int
  IntKind.u8 g.6] 16 != IntKind.wrap IntKind.u8 g.2) ((true = false) /\ ((Eq (α := List Value) (gC enA l) (gC enA g.1)) /\ ((Plain (gC enA l)) /\ True))) (((True /\ (True /\
  (True /\ True)))) /\ ((true = true) /\ ((Eq (α := List Value) (gC enA l) (gC enA g.1)) /\ ((Plain (gC enA l)) /\ True))))) False) False)))) False)))) False))))
  False)))))))))))))))))))))))))))))))))))))))))))))))))))))))))))))))))))) := by kernel_rfl
theorem S_law (code : UInt8) (l : List Ax) (hl : l.length ≤ maxLen) (ho : ∀ x ∈ l, OkX x) : Con Tryz.prog 11 [.int .u8 (code.toNat : Int), .slice (some ⟨0, 0, none⟩) l.length 11] [gRo enA l] (.bool true) [gRo enA l] := by
  refine con_vc (E := ECs) mixed (calls_envTc tCs_ok) (lok_envTc _ _) (M := mS) (lm_one S_piece) (S_vc (code.toNat : Int) l) ?_
  have tt : ∀ p : Prop, (True → p) = p := fun p => by simp
  simp only [ofNat_eq, toNat_cast, Nat.zero_add, Nat.add_zero, Nat.mul_one, List.drop_zero, bCells_len, bCells_drop, bCells_take, bCells_app, bCells_one, bCells_plain, List.length_replicate, List.length_append, List.length_take, List.length_drop, List.take_length, and_true, true_and, and_self, decide_true, List.length_nil, List.length_cons, Nat.sub_zero, dB_mk, dB_ro, List.take_zero, aPl, quP, true_imp_iff]
  refine ⟨⟨l, _, _, _, _, _⟩, ⟨hl, ho⟩, rfl, rfl, rfl, rfl, ?_⟩
  intro y
  simp (config := { decide := false }) only [cellI, List.getElem?_cons_zero, List.getElem?_cons_succ]
  have hx : iand .u8 ((code.toNat : Nat) : Int) 15 = ((code.toNat &&& 15 : Nat) : Int) := iand8_nat (b := 15) code.toNat_lt (by decide)
  have hm : code.toNat &&& 15 ≤ 15 := Nat.and_le_right
  rw [hx]
  generalize code.toNat &&& 15 = m at hm
  clear hx
  have hc : m = 0 ∨ m = 1 ∨ m = 2 ∨ m = 3 ∨ m = 4 ∨ m = 5 ∨ m = 6 ∨ m = 7 ∨ m = 8 ∨ m = 9 ∨ m = 10 ∨ m = 11 ∨ m = 12 ∨ m = 13 ∨ m = 14 ∨ m = 15 := by omega
  rcases hc with rfl | rfl | rfl | rfl | rfl | rfl | rfl | rfl | rfl | rfl | rfl | rfl | rfl | rfl | rfl | rfl <;>
    (repeat' first | exact trivial | refine And.intro ?_ ?_ | refine br_b (by kernel_rfl) ?_ | refine br_nb (by kernel_rfl) ?_)
theorem q_rx {Q : Nat → Prop} {n : Nat} {cells : List Value} (h : ElemsQ Q [.s, .s, .i .i64] n cells) : ∃ l : List Rx, l.length = n ∧ cells = gC enX l := by
  obtain ⟨l, h1, h2, _⟩ := h.data (α := Rx) enX (fun _ => True) (fun c hc => by
    match c, hc with
    | [x, y, z], hc =>
      obtain ⟨c1, c2, c3, _⟩ := hc
      obtain ⟨a1, rfl, _⟩ := cq_s c1
      obtain ⟨a2, rfl, _⟩ := cq_s c2
      obtain ⟨a3, rfl, _⟩ := cq_i c3
      exact ⟨⟨a1, a2, a3⟩, rfl, trivial⟩)
  exact ⟨l, h1, h2⟩
theorem ga_of {Q : Nat → Prop} {M : List (List Value)} (hL : ∀ c ∈ M, GCells Q [.p (.i .i64), .p (.i .i64), .p (.i .i64), .p (.i .i64), .p (.i .i64), .p (.i .i64), .sl 30 5 [.i .u8], .sl 30 5 [.i .u8], .sl 41 39 [.s, .s, .i .i64], .p .s, .p .b] c) :
    ∃ a : List Ax, a.length = M.length ∧ M.flatten = gC enA a ∧ ∀ x ∈ a, OkX x := by
  induction M with
  | nil => exact ⟨[], rfl, rfl, fun x hx => by simp at hx⟩
  | cons c M ih =>
    obtain ⟨a, h1, h2, h3⟩ := ih (fun d hd => hL d (List.mem_cons_of_mem _ hd))
    have hc := hL c (List.mem_cons_self ..)
    match c, hc with
    | [v1, v2, v3, v4, v5, v6, v7, v8, v9, v10, v11], hc =>
      obtain ⟨f1, f2, f3, f4, f5, f6, f7, f8, f9, f10, f11, _⟩ := hc
      obtain ⟨x1, rfl, _⟩ := cq_i f1
      obtain ⟨x2, rfl, _⟩ := cq_i f2
      obtain ⟨x3, rfl, _⟩ := cq_i f3
      obtain ⟨x4, rfl, _⟩ := cq_i f4
      obtain ⟨x5, rfl, _⟩ := cq_i f5
      obtain ⟨x6, rfl, _⟩ := cq_i f6
      obtain ⟨n7, c7, rfl, e7, _, _⟩ := f7
      obtain ⟨p7, l7, rfl⟩ := elems_bytes e7.elems
      obtain ⟨n8, c8, rfl, e8, _, _⟩ := f8
      obtain ⟨p8, l8, rfl⟩ := elems_bytes e8.elems
      obtain ⟨n9, c9, rfl, e9, m9, _⟩ := f9
      obtain ⟨p9, l9, rfl⟩ := q_rx e9
      obtain ⟨x10, rfl, _⟩ := cq_s f10
      obtain ⟨x11, rfl⟩ := cq_b f11
      subst l7 l8 l9
      refine ⟨⟨x1, x2, x3, x4, x5, x6, p7, p8, p9, x10, x11⟩ :: a, by rw [List.length_cons, List.length_cons, h1], by rw [List.flatten_cons, h2, gC_cons]; rfl, ?_⟩
      intro x hx
      rcases List.mem_cons.1 hx with rfl | hx
      · exact m9
      · exact h3 x hx
end Go.Proofs.YtcallecdjebojaaGreat.cs
