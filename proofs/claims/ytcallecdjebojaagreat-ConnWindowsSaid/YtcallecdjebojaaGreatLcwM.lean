/- ConnWindows: of a text as much goes as the window lets, and more just as it is credited, byte by byte. -/
import Derived.Test.YtcallecdjebojaaGreatSz9
import Derived.Test.YtcallecdjebojaaGreatRows
import Derived.Test.YtcallecdjebojaaGreatLcwL
set_option maxRecDepth 20000
set_option linter.unusedSimpArgs false
set_option linter.unusedVariables false
namespace Go.Proofs.YtcallecdjebojaaGreat.cw
open Go Go.Ev Go.Sy Go.RowKit Go.Proofs.YtcallecdjebojaaGreat.gl Go.Proofs.YtcallecdjebojaaGreat.tk Go.Proofs.YtcallecdjebojaaGreat.cp Go.Proofs.YtcallecdjebojaaGreat.s9 Go.Proofs.YtcallecdjebojaaGreat.fd Go.Proofs.YtcallecdjebojaaGreat.fe Go.Proofs.YtcallecdjebojaaGreat.cu Go.Proofs.YtcallecdjebojaaGreat.cg Go.Proofs.YtcallecdjebojaaGreat.ic
noncomputable def tM : List EntM := [eBg, eRunsG, eWiG]
noncomputable abbrev EM : Env := envCut (envTc Tryz.prog tM) [50, 85, 81, 122]
set_option maxHeartbeats 4000000 in
theorem M_vc (w z : Int) (l : List Int) : mcall EM mL 3000 12 [.int .i64 w, .slice (some ⟨0, 0, none⟩) l.length 1, .int .i64 z] ⟨mkR (nums 0 [iRo .i64 l]), 1⟩ (retIs 1 (.bool true) [iRo .i64 l]) =
  let z1 := (ior IntKind.i64 (ior IntKind.i64 (ior IntKind.i64 (ishl IntKind.i64 (IntKind.wrap IntKind.i64 (cellI [Value.int IntKind.u8 (0 : Int), Value.int IntKind.u8 (0 :
  Int), Value.int IntKind.u8 (1 : Int), Value.int IntKind.u8 (1 : Int), Value.int IntKind.u8 (5 : Int), Value.int IntKind.u8 (0 : Int), Value.int IntKind.u8 (0 : Int),
  Value.int IntKind.u8 (0 : Int), Value.int IntKind.u8 (1 : Int), Value.int IntKind.u8 (130 : Int)] 5)) (24 : Int)) (ishl IntKind.i64 (IntKind.wrap IntKind.i64 (cellI
  [Value.int IntKind.u8 (0 : Int), Value.int IntKind.u8 (0 : Int), Value.int IntKind.u8 (1 : Int), Value.int IntKind.u8 (1 : Int), Value.int IntKind.u8 (5 : Int), Value.int
  IntKind.u8 (0 : Int), Value.int IntKind.u8 (0 : Int), Value.int IntKind.u8 (0 : Int), Value.int IntKind.u8 (1 : Int), Value.int IntKind.u8 (130 : Int)] 6)) (16 : Int)))
  (ishl IntKind.i64 (IntKind.wrap IntKind.i64 (cellI [Value.int IntKind.u8 (0 : Int), Value.int IntKind.u8 (0 : Int), Value.int IntKind.u8 (1 : Int), Value.int IntKind.u8 (1
  : Int), Value.int IntKind.u8 (5 : Int), Value.int IntKind.u8 (0 : Int), Value.int IntKind.u8 (0 : Int), Value.int IntKind.u8 (0 : Int), Value.int IntKind.u8 (1 : Int),
  Value.int IntKind.u8 (130 : Int)] 7)) (8 : Int))) (IntKind.wrap IntKind.i64 (cellI [Value.int IntKind.u8 (0 : Int), Value.int IntKind.u8 (0 : Int), Value.int IntKind.u8 (1
  : Int), Value.int IntKind.u8 (1 : Int), Value.int IntKind.u8 (5 : Int), Value.int IntKind.u8 (0 : Int), Value.int IntKind.u8 (0 : Int), Value.int IntKind.u8 (0 : Int),
  Value.int IntKind.u8 (1 : Int), Value.int IntKind.u8 (130 : Int)] 8))); let z8 := (IntKind.wrap IntKind.u8 (ishr IntKind.i64 (inside w (0 : Int) (5000 : Int)) (8 : Int)));
  let z16 := (IntKind.wrap IntKind.u8 (inside w (0 : Int) (5000 : Int))); let z21 := (cellI [Value.int IntKind.u8 (0 : Int), Value.int IntKind.u8 (4 : Int), Value.int
  IntKind.u8 (0 : Int), Value.int IntKind.u8 (0 : Int), Value.int IntKind.u8 z8, Value.int IntKind.u8 z16] 4); let z2 := (ior IntKind.i64 (ior IntKind.i64 (ishl IntKind.i64
  (IntKind.wrap IntKind.i64 (cellI [Value.int IntKind.u8 (0 : Int), Value.int IntKind.u8 (4 : Int), Value.int IntKind.u8 (0 : Int), Value.int IntKind.u8 (0 : Int), Value.int
  IntKind.u8 z8, Value.int IntKind.u8 z16] 2)) (24 : Int)) (ishl IntKind.i64 (IntKind.wrap IntKind.i64 (cellI [Value.int IntKind.u8 (0 : Int), Value.int IntKind.u8 (4 :
  Int), Value.int IntKind.u8 (0 : Int), Value.int IntKind.u8 (0 : Int), Value.int IntKind.u8 z8, Value.int IntKind.u8 z16] 3)) (16 : Int))) (ishl IntKind.i64 (IntKind.wrap
  IntKind.i64 z21) (8 : Int))); let z3 := (cellI [Value.int IntKind.u8 (0 : Int), Value.int IntKind.u8 (4 : Int), Value.int IntKind.u8 (0 : Int), Value.int IntKind.u8 (0 :
  Int), Value.int IntKind.u8 z8, Value.int IntKind.u8 z16] 5); let z4 := (Value.agg (Array.mk [Value.int IntKind.i64 (ior IntKind.i64 (ishl IntKind.i64 (IntKind.wrap
  IntKind.i64 (cellI [Value.int IntKind.u8 (0 : Int), Value.int IntKind.u8 (4 : Int), Value.int IntKind.u8 (0 : Int), Value.int IntKind.u8 (0 : Int), Value.int IntKind.u8
  z8, Value.int IntKind.u8 z16] 0)) (8 : Int)) (IntKind.wrap IntKind.i64 (cellI [Value.int IntKind.u8 (0 : Int), Value.int IntKind.u8 (4 : Int), Value.int IntKind.u8 (0 :
  Int), Value.int IntKind.u8 (0 : Int), Value.int IntKind.u8 z8, Value.int IntKind.u8 z16] 1))), Value.int IntKind.i64 (ior IntKind.i64 z2 (IntKind.wrap IntKind.i64 z3))]));
  let z5 := ([Value.int IntKind.u8 (0 : Int), Value.int IntKind.u8 (0 : Int), Value.int IntKind.u8 (0 : Int), Value.int IntKind.u8 (4 : Int), Value.int IntKind.u8 (1 : Int),
  Value.int IntKind.u8 (0 : Int), Value.int IntKind.u8 (0 : Int), Value.int IntKind.u8 (0 : Int), Value.int IntKind.u8 (0 : Int), Value.int IntKind.u8 (0 : Int), Value.int
  IntKind.u8 (0 : Int), Value.int IntKind.u8 (1 : Int), Value.int IntKind.u8 (1 : Int), Value.int IntKind.u8 (4 : Int), Value.int IntKind.u8 (IntKind.wrap IntKind.u8 (ishr
  IntKind.i64 (iand IntKind.i64 z1 (2147483647 : Int)) (24 : Int))), Value.int IntKind.u8 (IntKind.wrap IntKind.u8 (ishr IntKind.i64 (iand IntKind.i64 z1 (2147483647 : Int))
  (16 : Int))), Value.int IntKind.u8 (IntKind.wrap IntKind.u8 (ishr IntKind.i64 (iand IntKind.i64 z1 (2147483647 : Int)) (8 : Int))), Value.int IntKind.u8 (IntKind.wrap
  IntKind.u8 (iand IntKind.i64 z1 (2147483647 : Int))), Value.int IntKind.u8 (136 : Int)]); let z6 := (Eq (α := Option Value) (some (Value.int IntKind.u8 (1 : Int))) (some
  (Value.int IntKind.u8 (cellI [Value.int IntKind.u8 (0 : Int), Value.int IntKind.u8 (0 : Int), Value.int IntKind.u8 (1 : Int), Value.int IntKind.u8 (1 : Int), Value.int
  IntKind.u8 (5 : Int), Value.int IntKind.u8 (0 : Int), Value.int IntKind.u8 (0 : Int), Value.int IntKind.u8 (0 : Int), Value.int IntKind.u8 (1 : Int), Value.int IntKind.u8
  (130 : Int)] 3)))); let z7 := (Eq (α := Option Value) (some (Value.int IntKind.u8 (5 : Int))) (some (Value.int IntKind.u8 (cellI [Value.int IntKind.u8 (0 : Int), Value.int
  IntKind.u8 (0 : Int), Value.int IntKind.u8 (1 : Int), Value.int IntKind.u8 (1 : Int), Value.int IntKind.u8 (5 : Int), Value.int IntKind.u8 (0 : Int), Value.int IntKind.u8
  (0 : Int), Value.int IntKind.u8 (0 : Int), Value.int IntKind.u8 (1 : Int), Value.int IntKind.u8 (130 : Int)] 4)))); let z9 := (Eq (α := Option Value) (some (Value.int
  IntKind.u8 (0 : Int))) (some (Value.int IntKind.u8 (cellI [Value.int IntKind.u8 (0 : Int), Value.int IntKind.u8 (0 : Int), Value.int IntKind.u8 (1 : Int), Value.int
  IntKind.u8 (1 : Int), Value.int IntKind.u8 (5 : Int), Value.int IntKind.u8 (0 : Int), Value.int IntKind.u8 (0 : Int), Value.int IntKind.u8 (0 : Int), Value.int IntKind.u8
  (1 : Int), Value.int IntKind.u8 (130 : Int)] 0)))); let z10 := (Eq (α := Option Value) (some (Value.int IntKind.u8 (0 : Int))) (some (Value.int IntKind.u8 (cellI
  [Value.int IntKind.u8 (0 : Int), Value.int IntKind.u8 (0 : Int), Value.int IntKind.u8 (1 : Int), Value.int IntKind.u8 (1 : Int), Value.int IntKind.u8 (5 : Int), Value.int
  IntKind.u8 (0 : Int), Value.int IntKind.u8 (0 : Int), Value.int IntKind.u8 (0 : Int), Value.int IntKind.u8 (1 : Int), Value.int IntKind.u8 (130 : Int)] 1)))); let z11 :=
  (Eq (α := Option Value) (some (Value.int IntKind.u8 (1 : Int))) (some (Value.int IntKind.u8 (cellI [Value.int IntKind.u8 (0 : Int), Value.int IntKind.u8 (0 : Int),
  Value.int IntKind.u8 (1 : Int), Value.int IntKind.u8 (1 : Int), Value.int IntKind.u8 (5 : Int), Value.int IntKind.u8 (0 : Int), Value.int IntKind.u8 (0 : Int), Value.int
  IntKind.u8 (0 : Int), Value.int IntKind.u8 (1 : Int), Value.int IntKind.u8 (130 : Int)] 2)))); let z12 := (Eq (α := Option Value) (some (Value.int IntKind.u8 (0 : Int)))
  (some (Value.int IntKind.u8 (cellI [Value.int IntKind.u8 (0 : Int), Value.int IntKind.u8 (0 : Int), Value.int IntKind.u8 (1 : Int), Value.int IntKind.u8 (1 : Int),
  Value.int IntKind.u8 (5 : Int), Value.int IntKind.u8 (0 : Int), Value.int IntKind.u8 (0 : Int), Value.int IntKind.u8 (0 : Int), Value.int IntKind.u8 (1 : Int), Value.int
  IntKind.u8 (130 : Int)] 5)))); let z13 := (Eq (α := Option Value) (some (Value.int IntKind.u8 (0 : Int))) (some (Value.int IntKind.u8 (cellI [Value.int IntKind.u8 (0 :
  Int), Value.int IntKind.u8 (0 : Int), Value.int IntKind.u8 (1 : Int), Value.int IntKind.u8 (1 : Int), Value.int IntKind.u8 (5 : Int), Value.int IntKind.u8 (0 : Int),
  Value.int IntKind.u8 (0 : Int), Value.int IntKind.u8 (0 : Int), Value.int IntKind.u8 (1 : Int), Value.int IntKind.u8 (130 : Int)] 6)))); let z14 := (Eq (α := Option Value)
  (some (Value.int IntKind.u8 (0 : Int))) (some (Value.int IntKind.u8 (cellI [Value.int IntKind.u8 (0 : Int), Value.int IntKind.u8 (0 : Int), Value.int IntKind.u8 (1 : Int),
  Value.int IntKind.u8 (1 : Int), Value.int IntKind.u8 (5 : Int), Value.int IntKind.u8 (0 : Int), Value.int IntKind.u8 (0 : Int), Value.int IntKind.u8 (0 : Int), Value.int
  IntKind.u8 (1 : Int), Value.int IntKind.u8 (130 : Int)] 7)))); let z15 := (Eq (α := Option Value) (some (Value.int IntKind.u8 (1 : Int))) (some (Value.int IntKind.u8
  (cellI [Value.int IntKind.u8 (0 : Int), Value.int IntKind.u8 (0 : Int), Value.int IntKind.u8 (1 : Int), Value.int IntKind.u8 (1 : Int), Value.int IntKind.u8 (5 : Int),
  Value.int IntKind.u8 (0 : Int), Value.int IntKind.u8 (0 : Int), Value.int IntKind.u8 (0 : Int), Value.int IntKind.u8 (1 : Int), Value.int IntKind.u8 (130 : Int)] 8))));
  let z17 := ([Value.int IntKind.u8 (0 : Int), Value.int IntKind.u8 (0 : Int), Value.int IntKind.u8 (1 : Int), Value.int IntKind.u8 (1 : Int), Value.int IntKind.u8 (5 :
  Int), Value.int IntKind.u8 (0 : Int), Value.int IntKind.u8 (0 : Int), Value.int IntKind.u8 (0 : Int), Value.int IntKind.u8 (1 : Int), Value.int IntKind.u8 (130 : Int)]);
  let z18 := (Eq (α := Option Value) (some (Value.int IntKind.u8 (4 : Int))) (some (Value.int IntKind.u8 (cellI [Value.int IntKind.u8 (0 : Int), Value.int IntKind.u8 (0 :
  Int), Value.int IntKind.u8 (6 : Int), Value.int IntKind.u8 (4 : Int), Value.int IntKind.u8 (0 : Int), Value.int IntKind.u8 (0 : Int), Value.int IntKind.u8 (0 : Int),
  Value.int IntKind.u8 (0 : Int), Value.int IntKind.u8 (0 : Int), Value.int IntKind.u8 (0 : Int), Value.int IntKind.u8 (4 : Int), Value.int IntKind.u8 (0 : Int), Value.int
  IntKind.u8 (0 : Int), Value.int IntKind.u8 z8, Value.int IntKind.u8 z16] 3)))); let z19 := (Eq (α := Option Value) (some (Value.int IntKind.u8 (0 : Int))) (some (Value.int
  IntKind.u8 (cellI [Value.int IntKind.u8 (0 : Int), Value.int IntKind.u8 (0 : Int), Value.int IntKind.u8 (6 : Int), Value.int IntKind.u8 (4 : Int), Value.int IntKind.u8 (0
  : Int), Value.int IntKind.u8 (0 : Int), Value.int IntKind.u8 (0 : Int), Value.int IntKind.u8 (0 : Int), Value.int IntKind.u8 (0 : Int), Value.int IntKind.u8 (0 : Int),
  Value.int IntKind.u8 (4 : Int), Value.int IntKind.u8 (0 : Int), Value.int IntKind.u8 (0 : Int), Value.int IntKind.u8 z8, Value.int IntKind.u8 z16] 4)))); let z20 := (Eq (α
  := Option Value) (some (Value.int IntKind.u8 (130 : Int))) (some (Value.int IntKind.u8 (cellI [Value.int IntKind.u8 (130 : Int)] 0)))); let z22 := (List.take (Int.toNat
  (inside z (1 : Int) (8000 : Int))) (List.drop 0 (List.replicate (Int.toNat (inside z (1 : Int) (8000 : Int))) (Value.int IntKind.u8 (0 : Int))))); let z23 := (Eq (α :=
  Option Value) (some (Value.int IntKind.u8 (0 : Int))) (some (Value.int IntKind.u8 (cellI [Value.int IntKind.u8 (0 : Int), Value.int IntKind.u8 (0 : Int), Value.int
  IntKind.u8 (6 : Int), Value.int IntKind.u8 (4 : Int), Value.int IntKind.u8 (0 : Int), Value.int IntKind.u8 (0 : Int), Value.int IntKind.u8 (0 : Int), Value.int IntKind.u8
  (0 : Int), Value.int IntKind.u8 (0 : Int), Value.int IntKind.u8 (0 : Int), Value.int IntKind.u8 (4 : Int), Value.int IntKind.u8 (0 : Int), Value.int IntKind.u8 (0 : Int),
  Value.int IntKind.u8 z8, Value.int IntKind.u8 z16] 0)))); let z24 := (Eq (α := Option Value) (some (Value.int IntKind.u8 (0 : Int))) (some (Value.int IntKind.u8 (cellI
  [Value.int IntKind.u8 (0 : Int), Value.int IntKind.u8 (0 : Int), Value.int IntKind.u8 (6 : Int), Value.int IntKind.u8 (4 : Int), Value.int IntKind.u8 (0 : Int), Value.int
  IntKind.u8 (0 : Int), Value.int IntKind.u8 (0 : Int), Value.int IntKind.u8 (0 : Int), Value.int IntKind.u8 (0 : Int), Value.int IntKind.u8 (0 : Int), Value.int IntKind.u8
  (4 : Int), Value.int IntKind.u8 (0 : Int), Value.int IntKind.u8 (0 : Int), Value.int IntKind.u8 z8, Value.int IntKind.u8 z16] 1)))); let z25 := (Eq (α := Option Value)
  (some (Value.int IntKind.u8 (6 : Int))) (some (Value.int IntKind.u8 (cellI [Value.int IntKind.u8 (0 : Int), Value.int IntKind.u8 (0 : Int), Value.int IntKind.u8 (6 : Int),
  Value.int IntKind.u8 (4 : Int), Value.int IntKind.u8 (0 : Int), Value.int IntKind.u8 (0 : Int), Value.int IntKind.u8 (0 : Int), Value.int IntKind.u8 (0 : Int), Value.int
  IntKind.u8 (0 : Int), Value.int IntKind.u8 (0 : Int), Value.int IntKind.u8 (4 : Int), Value.int IntKind.u8 (0 : Int), Value.int IntKind.u8 (0 : Int), Value.int IntKind.u8
  z8, Value.int IntKind.u8 z16] 2)))); let z26 := (Eq (α := Option Value) (some (Value.int IntKind.u8 (0 : Int))) (some (Value.int IntKind.u8 (cellI [Value.int IntKind.u8 (0
  : Int), Value.int IntKind.u8 (0 : Int), Value.int IntKind.u8 (6 : Int), Value.int IntKind.u8 (4 : Int), Value.int IntKind.u8 (0 : Int), Value.int IntKind.u8 (0 : Int),
  Value.int IntKind.u8 (0 : Int), Value.int IntKind.u8 (0 : Int), Value.int IntKind.u8 (0 : Int), Value.int IntKind.u8 (0 : Int), Value.int IntKind.u8 (4 : Int), Value.int
  IntKind.u8 (0 : Int), Value.int IntKind.u8 (0 : Int), Value.int IntKind.u8 z8, Value.int IntKind.u8 z16] 5)))); let z27 := (Eq (α := Option Value) (some (Value.int
  IntKind.u8 (0 : Int))) (some (Value.int IntKind.u8 (cellI [Value.int IntKind.u8 (0 : Int), Value.int IntKind.u8 (0 : Int), Value.int IntKind.u8 (6 : Int), Value.int
  IntKind.u8 (4 : Int), Value.int IntKind.u8 (0 : Int), Value.int IntKind.u8 (0 : Int), Value.int IntKind.u8 (0 : Int), Value.int IntKind.u8 (0 : Int), Value.int IntKind.u8
  (0 : Int), Value.int IntKind.u8 (0 : Int), Value.int IntKind.u8 (4 : Int), Value.int IntKind.u8 (0 : Int), Value.int IntKind.u8 (0 : Int), Value.int IntKind.u8 z8,
  Value.int IntKind.u8 z16] 6)))); let z28 := (Eq (α := Option Value) (some (Value.int IntKind.u8 (0 : Int))) (some (Value.int IntKind.u8 (cellI [Value.int IntKind.u8 (0 :
  Int), Value.int IntKind.u8 (0 : Int), Value.int IntKind.u8 (6 : Int), Value.int IntKind.u8 (4 : Int), Value.int IntKind.u8 (0 : Int), Value.int IntKind.u8 (0 : Int),
  Value.int IntKind.u8 (0 : Int), Value.int IntKind.u8 (0 : Int), Value.int IntKind.u8 (0 : Int), Value.int IntKind.u8 (0 : Int), Value.int IntKind.u8 (4 : Int), Value.int
  IntKind.u8 (0 : Int), Value.int IntKind.u8 (0 : Int), Value.int IntKind.u8 z8, Value.int IntKind.u8 z16] 7)))); let z29 := (Eq (α := Option Value) (some (Value.int
  IntKind.u8 (0 : Int))) (some (Value.int IntKind.u8 (cellI [Value.int IntKind.u8 (0 : Int), Value.int IntKind.u8 (0 : Int), Value.int IntKind.u8 (6 : Int), Value.int
  IntKind.u8 (4 : Int), Value.int IntKind.u8 (0 : Int), Value.int IntKind.u8 (0 : Int), Value.int IntKind.u8 (0 : Int), Value.int IntKind.u8 (0 : Int), Value.int IntKind.u8
  (0 : Int), Value.int IntKind.u8 (0 : Int), Value.int IntKind.u8 (4 : Int), Value.int IntKind.u8 (0 : Int), Value.int IntKind.u8 (0 : Int), Value.int IntKind.u8 z8,
  Value.int IntKind.u8 z16] 8)))); let z30 := (Eq (α := Option Value) (some (Value.int IntKind.u8 (0 : Int))) (some (Value.int IntKind.u8 (cellI [Value.int IntKind.u8 (0 :
  Int), Value.int IntKind.u8 (4 : Int), Value.int IntKind.u8 (0 : Int), Value.int IntKind.u8 (0 : Int), Value.int IntKind.u8 z8, Value.int IntKind.u8 z16] 0)))); let z31 :=
  (Eq (α := Option Value) (some (Value.int IntKind.u8 (4 : Int))) (some (Value.int IntKind.u8 (cellI [Value.int IntKind.u8 (0 : Int), Value.int IntKind.u8 (4 : Int),
  Value.int IntKind.u8 (0 : Int), Value.int IntKind.u8 (0 : Int), Value.int IntKind.u8 z8, Value.int IntKind.u8 z16] 1)))); let z32 := ((1 : Int) = iand IntKind.i64 z1
  (2147483647 : Int)); let z33 := (if (2147483647 : Int) < if (0 : Int) > ior IntKind.i64 z2 (IntKind.wrap IntKind.i64 z3) then (0 : Int) else ior IntKind.i64 z2
  (IntKind.wrap IntKind.i64 z3) then (2147483647 : Int) else if (0 : Int) > ior IntKind.i64 z2 (IntKind.wrap IntKind.i64 z3) then (0 : Int) else ior IntKind.i64 z2
  (IntKind.wrap IntKind.i64 z3)); let z34 := (Eq (α := Option Value) (some (Value.int IntKind.u8 (0 : Int))) (some (Value.int IntKind.u8 (cellI [Value.int IntKind.u8 (0 :
  Int), Value.int IntKind.u8 (4 : Int), Value.int IntKind.u8 (0 : Int), Value.int IntKind.u8 (0 : Int), Value.int IntKind.u8 z8, Value.int IntKind.u8 z16] 2)))); let z35 :=
  (Eq (α := Option Value) (some (Value.int IntKind.u8 (0 : Int))) (some (Value.int IntKind.u8 (cellI [Value.int IntKind.u8 (0 : Int), Value.int IntKind.u8 (4 : Int),
  Value.int IntKind.u8 (0 : Int), Value.int IntKind.u8 (0 : Int), Value.int IntKind.u8 z8, Value.int IntKind.u8 z16] 3)))); let z36 := (Eq (α := Option Value) (some
  (Value.int IntKind.u8 z8)) (some (Value.int IntKind.u8 z21))); let z37 := (Eq (α := Option Value) (some (Value.int IntKind.u8 z16)) (some (Value.int IntKind.u8 z3))); let
  z38 := (decide (ior IntKind.i64 z2 (IntKind.wrap IntKind.i64 z3) > (2147483647 : Int))); let z39 := (decide (ior IntKind.i64 z2 (IntKind.wrap IntKind.i64 z3) < (0 :
  Int))); let z40 := (Value.int IntKind.i64 (IntKind.wrap IntKind.i64 z21)); let z41 := (Value.int IntKind.i64 (IntKind.wrap IntKind.i64 z3)); (((((True /\ (True /\ (True /\
  True))) /\ True) /\ (True /\ ((Plain [Value.int IntKind.u8 (0 : Int), Value.int IntKind.u8 (0 : Int), Value.int IntKind.u8 (18 : Int), Value.int IntKind.u8 (4 : Int),
  Value.int IntKind.u8 (0 : Int), Value.int IntKind.u8 (0 : Int), Value.int IntKind.u8 (0 : Int), Value.int IntKind.u8 (0 : Int), Value.int IntKind.u8 (0 : Int), Value.int
  IntKind.u8 (0 : Int), Value.int IntKind.u8 (3 : Int), Value.int IntKind.u8 (0 : Int), Value.int IntKind.u8 (0 : Int), Value.int IntKind.u8 (0 : Int), Value.int IntKind.u8
  (2 : Int), Value.int IntKind.u8 (0 : Int), Value.int IntKind.u8 (4 : Int), Value.int IntKind.u8 (0 : Int), Value.int IntKind.u8 (0 : Int), Value.int IntKind.u8 (255 :
  Int), Value.int IntKind.u8 (255 : Int), Value.int IntKind.u8 (0 : Int), Value.int IntKind.u8 (6 : Int), Value.int IntKind.u8 (0 : Int), Value.int IntKind.u8 (1 : Int),
  Value.int IntKind.u8 (0 : Int), Value.int IntKind.u8 (0 : Int), Value.int IntKind.u8 (0 : Int), Value.int IntKind.u8 (0 : Int), Value.int IntKind.u8 (0 : Int), Value.int
  IntKind.u8 (4 : Int), Value.int IntKind.u8 (1 : Int), Value.int IntKind.u8 (0 : Int), Value.int IntKind.u8 (0 : Int), Value.int IntKind.u8 (0 : Int), Value.int IntKind.u8
  (0 : Int)] /\ (Plain [Value.int IntKind.u8 (0 : Int), Value.int IntKind.u8 (0 : Int), Value.int IntKind.u8 (0 : Int), Value.int IntKind.u8 (4 : Int), Value.int IntKind.u8
  (0 : Int), Value.int IntKind.u8 (0 : Int), Value.int IntKind.u8 (0 : Int), Value.int IntKind.u8 (0 : Int), Value.int IntKind.u8 (0 : Int)] /\ True)) /\ ((2 : Int) = (2 :
  Int) /\ ((65535 : Int) = (65535 : Int) /\ (65536 : Int) = (65536 : Int))))))) /\ ((((True /\ (True /\ (True /\ True))) /\ (True /\ (True /\ (I64 w /\ ((-1000000000000 :
  Int) <= (0 : Int) /\ ((5000 : Int) <= (1000000000000 : Int) /\ (0 : Int) <= (5000 : Int)))))))) /\ ((((True /\ (True /\ (True /\ True))) /\ (True /\ (True /\ (I64 z /\
  ((-1000000000000 : Int) <= (1 : Int) /\ ((8000 : Int) <= (1000000000000 : Int) /\ (1 : Int) <= (8000 : Int)))))))) /\ (br (decide ((0 : Int) <= inside z (1 : Int) (8000 :
  Int) /\ inside z (1 : Int) (8000 : Int) <= inside z (1 : Int) (8000 : Int) /\ inside z (1 : Int) (8000 : Int) <= (16777216 : Int))) (br (decide (0 + Int.toNat (inside z (1
  : Int) (8000 : Int)) <= List.length (List.replicate (Int.toNat (inside z (1 : Int) (8000 : Int))) (Value.int IntKind.u8 (0 : Int))))) ((AllB z22) /\ (z23 /\ (z24 /\ (z25
  /\ (z23 /\ (z24 /\ (z25 /\ (z26 /\ (z27 /\ (z28 /\ (z29 /\ (z26 /\ (z27 /\ (z28 /\ (z29 /\ (z18 /\ (z19 /\ (z18 /\ (z18 /\ (z19 /\ (z19 /\ (z30 /\ (z31 /\ (z34 /\ (z35 /\
  (z36 /\ (z37 /\ (z34 /\ (z35 /\ (z36 /\ (br (veq 20 (Value.int IntKind.u8 z21) (Value.int IntKind.u8 z21)) (br (veq 20 z40 z40) (z37 /\ (br (veq 20 (Value.int IntKind.u8
  z3) (Value.int IntKind.u8 z3)) (br (veq 20 z41 z41) (z30 /\ (z30 /\ (z31 /\ (z31 /\ (br z39 False (br z38 False (br (veq 20 z4 z4) (br z39 (br (veq 20 z4 z4) (z9 /\ (z10
  /\ (z11 /\ (z9 /\ (z10 /\ (z11 /\ (z12 /\ (z13 /\ (z14 /\ (z15 /\ (z12 /\ (z13 /\ (z14 /\ (z15 /\ (z6 /\ (z7 /\ (z6 /\ (z6 /\ (z7 /\ (z7 /\ (z20 /\ (z20 /\ (z20 /\ (∃ g :
  GL × LS, ((PreL g) /\ ((0 = 0) /\ ((List.length g.1.1 = List.length l) /\ ((0 = 0) /\ (((↑g.2.2 : Int) = inside w (0 : Int) (5000 : Int)) /\ ((bs (zs g.2.3) = ByteArray.mk
  (Array.mk (List.map bOf z22))) /\ ((g.2.1 = (-1 : Int)) /\ ((Eq (α := List Value) (iCells IntKind.i64 g.1.1) (iCells IntKind.i64 l)) /\ ((Plain (iCells IntKind.i64 g.1.1))
  /\ ((true = true) /\ (((2 : Int) = (2 : Int)) /\ (((65535 : Int) = (65535 : Int)) /\ (((65536 : Int) = (65536 : Int)) /\ (((4096 : Int) = (4096 : Int)) /\ (((2147483647 :
  Int) = (2147483647 : Int)) /\ ((g.1.2 = (65535 : Int)) /\ (((16384 : Int) = (16384 : Int)) /\ (((2147483647 : Int) = (2147483647 : Int)) /\ ((0 = 0) /\ ((List.length g.2.5
  = 19) /\ ((0 = 0) /\ ((0 = 0) /\ ((0 = 0) /\ ((g.2.4 = (65535 : Int)) /\ (((65535 : Int) = (65535 : Int)) /\ ((0 = 0) /\ ((1 = 1) /\ (z32 /\ (((1 : Int) = (1 : Int)) /\
  ((true = true) /\ ((false = false) /\ ((false = false) /\ ((false = false) /\ ((false = false) /\ (((0 : Int) = (0 : Int)) /\ ((false = false) /\ ((Eq (α := List Value)
  (bCells g.2.5) z5) /\ ((Plain (bCells g.2.5)) /\ ((g.2.7 = 10) /\ ((0 = 0) /\ (((16384 : Int) = (16384 : Int)) /\ ((ByteArray.mk #[] = ByteArray.mk #[]) /\ (((0 : Int) =
  (0 : Int)) /\ (((0 : Int) = (0 : Int)) /\ (((0 : Int) = (0 : Int)) /\ ((Eq (α := List Value) (bCells g.2.6) z17) /\ ((Plain (bCells g.2.6)) /\ ((0 = 0) /\ (((4096 : Int) =
  (4096 : Int)) /\ (((65536 : Int) = (65536 : Int)) /\ ((false = false) /\ ((0 = 0) /\ ((false = false) /\ (((0 : Int) = (0 : Int)) /\ ((0 = 0) /\ (z32 /\ (((3 : Int) = (3 :
  Int)) /\ (((↑g.2.2 : Int) = (65535 : Int)) /\ (((65535 : Int) = (65535 : Int)) /\ ((true = true) /\ ((true = true) /\ (((0 : Int) = (0 : Int)) /\ (((4096 : Int) = (4096 :
  Int)) /\ (((0 : Int) = (0 : Int)) /\ (((4096 : Int) = (4096 : Int)) /\ (∀ (y : LS), ((True) → (((True /\ (True /\ (True /\ True)))) /\ ((true = true) /\ ((Eq (α := List
  Value) (iCells IntKind.i64 l) (iCells IntKind.i64 g.1.1)) /\ ((Plain (iCells IntKind.i64 l)) /\
  True))))))))))))))))))))))))))))))))))))))))))))))))))))))))))))))))))))))))))))))))))))))))))))))) False) (br z38 (br (veq 20 z4 z4) (z9 /\ (z10 /\ (z11 /\ (z9 /\ (z10 /\
  (z11 /\ (z12 /\ (z13 /\ (z14 /\ (z15 /\ (z12 /\ (z13 /\ (z14 /\ (z15 /\ (z6 /\ (z7 /\ (z6 /\ (z6 /\ (z7 /\ (z7 /\ (z20 /\ (z20 /\ (z20 /\ (∃ g : GL × LS, ((PreL g) /\ ((0
  = 0) /\ ((List.length g.1.1 = List.length l) /\ ((0 = 0) /\ (((↑g.2.2 : Int) = inside w (0 : Int) (5000 : Int)) /\ ((bs (zs g.2.3) = ByteArray.mk (Array.mk (List.map bOf
  z22))) /\ ((g.2.1 = (-1 : Int)) /\ ((Eq (α := List Value) (iCells IntKind.i64 g.1.1) (iCells IntKind.i64 l)) /\ ((Plain (iCells IntKind.i64 g.1.1)) /\ ((true = true) /\
  (((2 : Int) = (2 : Int)) /\ (((65535 : Int) = (65535 : Int)) /\ (((65536 : Int) = (65536 : Int)) /\ (((4096 : Int) = (4096 : Int)) /\ (((2147483647 : Int) = (2147483647 :
  Int)) /\ ((g.1.2 = (65535 : Int)) /\ (((16384 : Int) = (16384 : Int)) /\ (((2147483647 : Int) = (2147483647 : Int)) /\ ((0 = 0) /\ ((List.length g.2.5 = 19) /\ ((0 = 0) /\
  ((0 = 0) /\ ((0 = 0) /\ ((g.2.4 = (65535 : Int)) /\ (((65535 : Int) = (65535 : Int)) /\ ((0 = 0) /\ ((1 = 1) /\ (z32 /\ (((1 : Int) = (1 : Int)) /\ ((true = true) /\
  ((false = false) /\ ((false = false) /\ ((false = false) /\ ((false = false) /\ (((0 : Int) = (0 : Int)) /\ ((false = false) /\ ((Eq (α := List Value) (bCells g.2.5) z5)
  /\ ((Plain (bCells g.2.5)) /\ ((g.2.7 = 10) /\ ((0 = 0) /\ (((16384 : Int) = (16384 : Int)) /\ ((ByteArray.mk #[] = ByteArray.mk #[]) /\ (((0 : Int) = (0 : Int)) /\ (((0 :
  Int) = (0 : Int)) /\ (((0 : Int) = (0 : Int)) /\ ((Eq (α := List Value) (bCells g.2.6) z17) /\ ((Plain (bCells g.2.6)) /\ ((0 = 0) /\ (((4096 : Int) = (4096 : Int)) /\
  (((65536 : Int) = (65536 : Int)) /\ ((false = false) /\ ((0 = 0) /\ ((false = false) /\ (((0 : Int) = (0 : Int)) /\ ((0 = 0) /\ (z32 /\ (((3 : Int) = (3 : Int)) /\
  (((↑g.2.2 : Int) = (65535 : Int)) /\ (((65535 : Int) = (65535 : Int)) /\ ((true = true) /\ ((true = true) /\ (((0 : Int) = (0 : Int)) /\ (((4096 : Int) = (4096 : Int)) /\
  (((0 : Int) = (0 : Int)) /\ (((4096 : Int) = (4096 : Int)) /\ (∀ (y : LS), ((True) → (((True /\ (True /\ (True /\ True)))) /\ ((true = true) /\ ((Eq (α := List Value)
  (iCells IntKind.i64 l) (iCells IntKind.i64 g.1.1)) /\ ((Plain (iCells IntKind.i64 l)) /\
  True))))))))))))))))))))))))))))))))))))))))))))))))))))))))))))))))))))))))))))))))))))))))))))))) False) (br (veq 20 z4 z4) (z9 /\ (z10 /\ (z11 /\ (z9 /\ (z10 /\ (z11 /\
  (z12 /\ (z13 /\ (z14 /\ (z15 /\ (z12 /\ (z13 /\ (z14 /\ (z15 /\ (z6 /\ (z7 /\ (z6 /\ (z6 /\ (z7 /\ (z7 /\ (z20 /\ (z20 /\ (z20 /\ (br (decide (z33 < (0 : Int))) (∃ g : GL
  × LS, ((PreL g) /\ ((0 = 0) /\ ((List.length g.1.1 = List.length l) /\ ((0 = 0) /\ (((↑g.2.2 : Int) = inside w (0 : Int) (5000 : Int)) /\ ((bs (zs g.2.3) = ByteArray.mk
  (Array.mk (List.map bOf z22))) /\ ((g.2.1 = (-1 : Int)) /\ ((Eq (α := List Value) (iCells IntKind.i64 g.1.1) (iCells IntKind.i64 l)) /\ ((Plain (iCells IntKind.i64 g.1.1))
  /\ ((true = true) /\ (((2 : Int) = (2 : Int)) /\ (((65535 : Int) = (65535 : Int)) /\ (((65536 : Int) = (65536 : Int)) /\ (((4096 : Int) = (4096 : Int)) /\ (((2147483647 :
  Int) = (2147483647 : Int)) /\ ((g.1.2 = if (2147483647 : Int) < if (0 : Int) > ior IntKind.i64 z2 (IntKind.wrap IntKind.i64 z3) then (0 : Int) else ior IntKind.i64 z2
  (IntKind.wrap IntKind.i64 z3) then (2147483647 : Int) else if (0 : Int) > ior IntKind.i64 z2 (IntKind.wrap IntKind.i64 z3) then (0 : Int) else ior IntKind.i64 z2
  (IntKind.wrap IntKind.i64 z3)) /\ (((16384 : Int) = (16384 : Int)) /\ (((2147483647 : Int) = (2147483647 : Int)) /\ ((0 = 0) /\ ((List.length g.2.5 = 19) /\ ((0 = 0) /\
  ((0 = 0) /\ ((0 = 0) /\ ((g.2.4 = (65535 : Int)) /\ (((65535 : Int) = (65535 : Int)) /\ ((0 = 0) /\ ((1 = 1) /\ (z32 /\ (((1 : Int) = (1 : Int)) /\ ((true = true) /\
  ((false = false) /\ ((false = false) /\ ((false = false) /\ ((false = false) /\ (((0 : Int) = (0 : Int)) /\ ((false = false) /\ ((Eq (α := List Value) (bCells g.2.5) z5)
  /\ ((Plain (bCells g.2.5)) /\ ((g.2.7 = 10) /\ ((0 = 0) /\ (((16384 : Int) = (16384 : Int)) /\ ((ByteArray.mk #[] = ByteArray.mk #[]) /\ (((0 : Int) = (0 : Int)) /\ (((0 :
  Int) = (0 : Int)) /\ (((0 : Int) = (0 : Int)) /\ ((Eq (α := List Value) (bCells g.2.6) z17) /\ ((Plain (bCells g.2.6)) /\ ((0 = 0) /\ (((4096 : Int) = (4096 : Int)) /\
  (((65536 : Int) = (65536 : Int)) /\ ((false = false) /\ ((0 = 0) /\ ((false = false) /\ (((0 : Int) = (0 : Int)) /\ ((0 = 0) /\ (z32 /\ (((3 : Int) = (3 : Int)) /\
  (((↑g.2.2 : Int) = (0 : Int)) /\ (((65535 : Int) = (65535 : Int)) /\ ((true = true) /\ ((true = true) /\ (((0 : Int) = (0 : Int)) /\ (((4096 : Int) = (4096 : Int)) /\ (((0
  : Int) = (0 : Int)) /\ (((4096 : Int) = (4096 : Int)) /\ (∀ (y : LS), ((True) → (((True /\ (True /\ (True /\ True)))) /\ ((true = true) /\ ((Eq (α := List Value) (iCells
  IntKind.i64 l) (iCells IntKind.i64 g.1.1)) /\ ((Plain (iCells IntKind.i64 l)) /\ True)))))))))))))))))))))))))))))))))))))))))))))))))))))))))))))))))))))))) (br (decide
  (z33 > (2147483647 : Int))) (∃ g : GL × LS, ((PreL g) /\ ((0 = 0) /\ ((List.length g.1.1 = List.length l) /\ ((0 = 0) /\ (((↑g.2.2 : Int) = inside w (0 : Int) (5000 :
  Int)) /\ ((bs (zs g.2.3) = ByteArray.mk (Array.mk (List.map bOf z22))) /\ ((g.2.1 = (-1 : Int)) /\ ((Eq (α := List Value) (iCells IntKind.i64 g.1.1) (iCells IntKind.i64
  l)) /\ ((Plain (iCells IntKind.i64 g.1.1)) /\ ((true = true) /\ (((2 : Int) = (2 : Int)) /\ (((65535 : Int) = (65535 : Int)) /\ (((65536 : Int) = (65536 : Int)) /\ (((4096
  : Int) = (4096 : Int)) /\ (((2147483647 : Int) = (2147483647 : Int)) /\ ((g.1.2 = if (2147483647 : Int) < if (0 : Int) > ior IntKind.i64 z2 (IntKind.wrap IntKind.i64 z3)
  then (0 : Int) else ior IntKind.i64 z2 (IntKind.wrap IntKind.i64 z3) then (2147483647 : Int) else if (0 : Int) > ior IntKind.i64 z2 (IntKind.wrap IntKind.i64 z3) then (0 :
  Int) else ior IntKind.i64 z2 (IntKind.wrap IntKind.i64 z3)) /\ (((16384 : Int) = (16384 : Int)) /\ (((2147483647 : Int) = (2147483647 : Int)) /\ ((0 = 0) /\ ((List.length
  g.2.5 = 19) /\ ((0 = 0) /\ ((0 = 0) /\ ((0 = 0) /\ ((g.2.4 = (65535 : Int)) /\ (((65535 : Int) = (65535 : Int)) /\ ((0 = 0) /\ ((1 = 1) /\ (z32 /\ (((1 : Int) = (1 : Int))
  /\ ((true = true) /\ ((false = false) /\ ((false = false) /\ ((false = false) /\ ((false = false) /\ (((0 : Int) = (0 : Int)) /\ ((false = false) /\ ((Eq (α := List Value)
  (bCells g.2.5) z5) /\ ((Plain (bCells g.2.5)) /\ ((g.2.7 = 10) /\ ((0 = 0) /\ (((16384 : Int) = (16384 : Int)) /\ ((ByteArray.mk #[] = ByteArray.mk #[]) /\ (((0 : Int) =
  (0 : Int)) /\ (((0 : Int) = (0 : Int)) /\ (((0 : Int) = (0 : Int)) /\ ((Eq (α := List Value) (bCells g.2.6) z17) /\ ((Plain (bCells g.2.6)) /\ ((0 = 0) /\ (((4096 : Int) =
  (4096 : Int)) /\ (((65536 : Int) = (65536 : Int)) /\ ((false = false) /\ ((0 = 0) /\ ((false = false) /\ (((0 : Int) = (0 : Int)) /\ ((0 = 0) /\ (z32 /\ (((3 : Int) = (3 :
  Int)) /\ (((↑g.2.2 : Int) = (0 : Int)) /\ (((65535 : Int) = (65535 : Int)) /\ ((true = true) /\ ((true = true) /\ (((0 : Int) = (0 : Int)) /\ (((4096 : Int) = (4096 :
  Int)) /\ (((0 : Int) = (0 : Int)) /\ (((4096 : Int) = (4096 : Int)) /\ (∀ (y : LS), ((True) → (((True /\ (True /\ (True /\ True)))) /\ ((true = true) /\ ((Eq (α := List
  Value) (iCells IntKind.i64 l) (iCells IntKind.i64 g.1.1)) /\ ((Plain (iCells IntKind.i64 l)) /\
  True)))))))))))))))))))))))))))))))))))))))))))))))))))))))))))))))))))))))) (∃ g : GL × LS, ((PreL g) /\ ((0 = 0) /\ ((List.length g.1.1 = List.length l) /\ ((0 = 0) /\
  (((↑g.2.2 : Int) = inside w (0 : Int) (5000 : Int)) /\ ((bs (zs g.2.3) = ByteArray.mk (Array.mk (List.map bOf z22))) /\ ((g.2.1 = (-1 : Int)) /\ ((Eq (α := List Value)
  (iCells IntKind.i64 g.1.1) (iCells IntKind.i64 l)) /\ ((Plain (iCells IntKind.i64 g.1.1)) /\ ((true = true) /\ (((2 : Int) = (2 : Int)) /\ (((65535 : Int) = (65535 : Int))
  /\ (((65536 : Int) = (65536 : Int)) /\ (((4096 : Int) = (4096 : Int)) /\ (((2147483647 : Int) = (2147483647 : Int)) /\ ((g.1.2 = if (2147483647 : Int) < if (0 : Int) > ior
  IntKind.i64 z2 (IntKind.wrap IntKind.i64 z3) then (0 : Int) else ior IntKind.i64 z2 (IntKind.wrap IntKind.i64 z3) then (2147483647 : Int) else if (0 : Int) > ior
  IntKind.i64 z2 (IntKind.wrap IntKind.i64 z3) then (0 : Int) else ior IntKind.i64 z2 (IntKind.wrap IntKind.i64 z3)) /\ (((16384 : Int) = (16384 : Int)) /\ (((2147483647 :
  Int) = (2147483647 : Int)) /\ ((0 = 0) /\ ((List.length g.2.5 = 19) /\ ((0 = 0) /\ ((0 = 0) /\ ((0 = 0) /\ ((g.2.4 = (65535 : Int)) /\ (((65535 : Int) = (65535 : Int)) /\
  ((0 = 0) /\ ((1 = 1) /\ (z32 /\ (((1 : Int) = (1 : Int)) /\ ((true = true) /\ ((false = false) /\ ((false = false) /\ ((false = false) /\ ((false = false) /\ (((0 : Int) =
  (0 : Int)) /\ ((false = false) /\ ((Eq (α := List Value) (bCells g.2.5) z5) /\ ((Plain (bCells g.2.5)) /\ ((g.2.7 = 10) /\ ((0 = 0) /\ (((16384 : Int) = (16384 : Int)) /\
  ((ByteArray.mk #[] = ByteArray.mk #[]) /\ (((0 : Int) = (0 : Int)) /\ (((0 : Int) = (0 : Int)) /\ (((0 : Int) = (0 : Int)) /\ ((Eq (α := List Value) (bCells g.2.6) z17) /\
  ((Plain (bCells g.2.6)) /\ ((0 = 0) /\ (((4096 : Int) = (4096 : Int)) /\ (((65536 : Int) = (65536 : Int)) /\ ((false = false) /\ ((0 = 0) /\ ((false = false) /\ (((0 :
  Int) = (0 : Int)) /\ ((0 = 0) /\ (z32 /\ (((3 : Int) = (3 : Int)) /\ (((↑g.2.2 : Int) = if (2147483647 : Int) < if (0 : Int) > ior IntKind.i64 z2 (IntKind.wrap IntKind.i64
  z3) then (0 : Int) else ior IntKind.i64 z2 (IntKind.wrap IntKind.i64 z3) then (2147483647 : Int) else if (0 : Int) > ior IntKind.i64 z2 (IntKind.wrap IntKind.i64 z3) then
  (0 : Int) else ior IntKind.i64 z2 (IntKind.wrap IntKind.i64 z3)) /\ (((65535 : Int) = (65535 : Int)) /\ ((true = true) /\ ((true = true) /\ (((0 : Int) = (0 : Int)) /\
  (((4096 : Int) = (4096 : Int)) /\ (((0 : Int) = (0 : Int)) /\ (((4096 : Int) = (4096 : Int)) /\ (∀ (y : LS), ((True) → (((True /\ (True /\ (True /\ True)))) /\ ((true =
  true) /\ ((Eq (α := List Value) (iCells IntKind.i64 l) (iCells IntKind.i64 g.1.1)) /\ ((Plain (iCells IntKind.i64 l)) /\
  True))))))))))))))))))))))))))))))))))))))))))))))))))))))))))))))))))))))))))))))))))))))))))))))))) False))) False))))))) False) False)) False)
  False))))))))))))))))))))))))))))))) False) False)))) := by kernel_rfl
theorem tM_ok : ∀ x ∈ tM, EntOk Tryz.prog x := all_cons eBg_ok (all_cons eRunsG_ok (all_cons eWiG_ok all_nil))
theorem num_g : ∀ a : Fin 20, ∀ b : Fin 256, ior .i64 (ior .i64 (ior .i64 (ishl .i64 (IntKind.i64.wrap 0) 24) (ishl .i64 (IntKind.i64.wrap 0) 16)) (ishl .i64 (IntKind.i64.wrap ((a.val : Nat) : Int)) 8)) (IntKind.i64.wrap ((b.val : Nat) : Int)) = ((a.val * 256 + b.val : Nat) : Int) := by decide +kernel
theorem by8_int (n : Int) : IntKind.u8.wrap n = ((by8 n).toNat : Int) := by
  have h := by8_v n
  unfold bVal at h
  simpa using h
theorem num_A (A : Nat) (h : A ≤ 5000) : ior .i64 (ior .i64 (ior .i64 (ishl .i64 (IntKind.i64.wrap 0) 24) (ishl .i64 (IntKind.i64.wrap 0) 16)) (ishl .i64 (IntKind.i64.wrap (IntKind.u8.wrap (ishr .i64 (A : Int) 8))) 8)) (IntKind.i64.wrap (IntKind.u8.wrap (A : Int))) = (A : Int) := by
  have e := shr_nat A 8 (by omega)
  simp only [Int.cast_ofNat_Int] at e
  have e1 : (by8 (ishr .i64 (A : Int) 8)).toNat = A / 256 := by rw [e, by8_nat]; omega
  have e2 : (by8 (A : Int)).toNat = A % 256 := by8_nat A
  rw [by8_int, by8_int, e1, e2]
  have := num_g ⟨A / 256, by omega⟩ ⟨A % 256, by omega⟩
  simp only at this
  rw [this]; omega
theorem s_1 : iand .i64 (ior .i64 (ior .i64 (ior .i64 (ishl .i64 (IntKind.i64.wrap 0) 24) (ishl .i64 (IntKind.i64.wrap 0) 16)) (ishl .i64 (IntKind.i64.wrap 0) 8)) (IntKind.i64.wrap 1)) 2147483647 = 1 := by decide +kernel
theorem s_4 : ior .i64 (ishl .i64 (IntKind.i64.wrap 0) 8) (IntKind.i64.wrap 4) = 4 := by decide +kernel
theorem s_24 : IntKind.u8.wrap (ishr .i64 1 24) = 0 := by decide +kernel
theorem s_16 : IntKind.u8.wrap (ishr .i64 1 16) = 0 := by decide +kernel
theorem s_8 : IntKind.u8.wrap (ishr .i64 1 8) = 0 := by decide +kernel
theorem s_0 : IntKind.u8.wrap 1 = 1 := by decide +kernel
theorem veq_ag2 (n : Nat) (a b : Int) : veq (n + 2) (.agg ⟨[.int .i64 a, .int .i64 b]⟩) (.agg ⟨[.int .i64 a, .int .i64 b]⟩) = true := by simp [veq]
set_option maxRecDepth 400000 in
theorem M_law (w : Int) (l : List Int) (z : Int) (hw : I64 w) (hl : l.length ≤ maxLen) (hg : ∀ x ∈ l, (Lit.int .i64 x).wf = true) (hz : I64 z) : Con Tryz.prog 12 [.int .i64 w, .slice (some ⟨0, 0, none⟩) l.length 1, .int .i64 z] [iRo .i64 l] (.bool true) [iRo .i64 l] := by
  refine con_vc (E := EM) tk.mixed (cut_calls (calls_envTc tM_ok)) cut_lok (M := mL) (lm_one L_piece) (M_vc w z l) ?_
  obtain ⟨a1, a2⟩ := inside_in w 0 5000 (by decide)
  obtain ⟨b1, b2⟩ := inside_in z 1 8000 (by decide)
  obtain ⟨A, hA⟩ : ∃ A : Nat, inside w 0 5000 = (A : Int) := ⟨(inside w 0 5000).toNat, by omega⟩
  obtain ⟨B, hB⟩ : ∃ B : Nat, inside z 1 8000 = (B : Int) := ⟨(inside z 1 8000).toNat, by omega⟩
  rw [hA] at a1 a2
  rw [hB] at b1 b2
  have p36 : Plain quB.cells := fun v hv => by
    have : v ∈ bCells quL := hv
    exact bCells_plain _ v this
  have p9 : Plain lfB.cells := by
    intro v hv
    simp only [lfB, List.mem_cons, List.not_mem_nil, or_false] at hv
    rcases hv with rfl | rfl | rfl | rfl | rfl | rfl | rfl | rfl | rfl <;> rfl
  unfold quB at p36
  unfold lfB at p9
  simp only [hA, hB, Int.toNat_natCast]
  simp (config := { decide := false }) only [ofNat_eq, toNat_cast, Nat.zero_add, Nat.add_zero, Nat.mul_one, List.drop_zero, bCells_len, bCells_drop, bCells_take, bCells_app, bCells_one, bCells_plain, List.length_replicate, List.length_append, List.length_take, List.length_drop, List.take_length, and_true, true_and, and_self, decide_true, List.length_nil, List.length_cons, Nat.sub_zero, dB_mk, dB_ro, List.take_zero, Int.toNat_natCast, iCells_plain, iCells_len, bsd, p36, p9, rep_z, cellI, List.getElem?_cons_zero, List.getElem?_cons_succ]
  simp only [num_A A (by omega), s_1, s_4, s_24, s_16, s_8, s_0, veq_int, veq_ag2, veq_ag1]
  have hAB : AllB (bCells (List.replicate B 0)) := fun v hv => by obtain ⟨b, _, rfl⟩ := List.mem_map.1 hv; exact ⟨_, rfl⟩
  refine ⟨⟨hw, by decide⟩, ⟨hz, by decide⟩, br_dec (by omega) (br_dec (by omega) ⟨hAB, ?_⟩)⟩
  repeat first
    | refine br_b rfl ?_
    | refine br_dec (by omega) ?_
    | refine br_nd (by omega) ?_
  have vA : (A : Int) = if (2147483647 : Int) < (if (0 : Int) > (A : Int) then (0 : Int) else (A : Int)) then (2147483647 : Int) else (if (0 : Int) > (A : Int) then (0 : Int) else (A : Int)) := by
    rw [if_neg (by omega : ¬ (0 : Int) > (A : Int)), if_neg (by omega)]
  have hT : bs (zs B) = ⟨⟨List.map bOf (bCells (List.replicate B 0))⟩⟩ := by
    have : List.map bOf (bCells (List.replicate B 0)) = List.replicate B 0 := bCells_bOf _
    rw [this]; rfl
  refine ⟨(⟨l, (A : Int)⟩, ⟨-1, A, B, 65535, [0, 0, 0, 4, 1, 0, 0, 0, 0, 0, 0, 1, 1, 4, 0, 0, 0, 1, 136], [0, 0, 1, 1, 5, 0, 0, 0, 1, 130], 10⟩), ⟨hl, fun x hx => Sy.wf64 (hg x hx), rfl, ?_⟩, rfl, rfl, hT, rfl, rfl, vA, rfl, rfl, trivial, rfl, rfl, rfl, trivial, vA, fun _ _ => rfl⟩
  exact ⟨by simp only; omega, by simp only; omega, by simp only; omega, by simp only; omega, by simp only; omega, by simp only; omega, by simp only [List.length_cons, List.length_nil]; omega, rfl, by show 10 ≤ 1000; decide⟩
end Go.Proofs.YtcallecdjebojaaGreat.cw
