/- FreshShares: the lifetime that nobody tells is a share of the time since the last change. -/
import Derived.Test.YtideeogedleabaaSz9
import Derived.Test.YtideeogedleabaaRows
import Derived.Test.YtideeogedleabaaLlawFrS
set_option maxRecDepth 20000
set_option linter.unusedSimpArgs false
set_option linter.unusedVariables false
namespace Go.Proofs.Ytideeogedleabaa.tk
open Go Go.Ev Go.Sy Go.RowKit Go.Proofs.Ytideeogedleabaa.gl
noncomputable abbrev EnF : Env := envTn Try.prog tFs
theorem Fn_vc (a b : Nat) (sh : Nat) : mcall EnF noM 60 6 [.int .u16 (a : Nat), .int .u16 (b : Nat), .float .f64 sh] ⟨mkR (nums 0 []), 0⟩ (retIs 0 (.bool true) []) =
  ((((True /\ True) /\ (True /\ (True /\ True)))) /\ ((((True /\ True) /\ (True /\ (True /\ True)))) /\ (((((True /\ (True /\ (True /\ (True /\ (True /\ (True /\ (True /\
  ((4 <= 4 /\ Plain [Value.string (ByteArray.mk #[100, 97, 116, 101]), Value.string (shZ (784111777 : Int)), Value.string (ByteArray.mk #[108, 97, 115, 116, 45, 109, 111,
  100, 105, 102, 105, 101, 100]), Value.string (shZ (IntKind.wrap IntKind.i64 ((784111777 : Int) - IntKind.wrap IntKind.i64 (↑a : Int))))]) /\ (True /\ (True /\ (True /\
  (True /\ True)))))))))))) /\ (True /\ True)) /\ ((True /\ (True /\ True)) /\ (True /\ (IsF (Row.mk [] true (Ob.cells true)) 0 /\ (IsF (Row.mk [Value.string (ByteArray.mk
  #[100, 97, 116, 101]), Value.string (shZ (784111777 : Int)), Value.string (ByteArray.mk #[108, 97, 115, 116, 45, 109, 111, 100, 105, 102, 105, 101, 100]), Value.string
  (shZ (IntKind.wrap IntKind.i64 ((784111777 : Int) - IntKind.wrap IntKind.i64 (↑a : Int))))] true (Ob.cells true)) 2 /\ (0 <= maxLen /\ (2 <= maxLen /\ BgR (Row.mk
  [Value.string (ByteArray.mk #[100, 97, 116, 101]), Value.string (shZ (784111777 : Int)), Value.string (ByteArray.mk #[108, 97, 115, 116, 45, 109, 111, 100, 105, 102, 105,
  101, 100]), Value.string (shZ (IntKind.wrap IntKind.i64 ((784111777 : Int) - IntKind.wrap IntKind.i64 (↑a : Int))))] true (Ob.cells true)))))))))) /\ (((((True /\ (True /\
  (True /\ (True /\ (True /\ (True /\ (True /\ ((4 <= 4 /\ Plain [Value.string (ByteArray.mk #[100, 97, 116, 101]), Value.string (shZ (784111777 : Int)), Value.string
  (ByteArray.mk #[108, 97, 115, 116, 45, 109, 111, 100, 105, 102, 105, 101, 100]), Value.string (shZ (IntKind.wrap IntKind.i64 ((784111777 : Int) - IntKind.wrap IntKind.i64
  (↑a : Int))))]) /\ (True /\ (True /\ (True /\ (True /\ True)))))))))))) /\ (True /\ True)) /\ ((True /\ (True /\ True)) /\ (True /\ (IsF (Row.mk [] true (Ob.cells true)) 0
  /\ (IsF (Row.mk [Value.string (ByteArray.mk #[100, 97, 116, 101]), Value.string (shZ (784111777 : Int)), Value.string (ByteArray.mk #[108, 97, 115, 116, 45, 109, 111, 100,
  105, 102, 105, 101, 100]), Value.string (shZ (IntKind.wrap IntKind.i64 ((784111777 : Int) - IntKind.wrap IntKind.i64 (↑a : Int))))] true (Ob.cells true)) 2 /\ (0 <= maxLen
  /\ (2 <= maxLen /\ BgR (Row.mk [Value.string (ByteArray.mk #[100, 97, 116, 101]), Value.string (shZ (784111777 : Int)), Value.string (ByteArray.mk #[108, 97, 115, 116, 45,
  109, 111, 100, 105, 102, 105, 101, 100]), Value.string (shZ (IntKind.wrap IntKind.i64 ((784111777 : Int) - IntKind.wrap IntKind.i64 (↑a : Int))))] true (Ob.cells
  true)))))))))) /\ (br (lifeR (Row.mk [Value.string (ByteArray.mk #[100, 97, 116, 101]), Value.string (shZ (784111777 : Int)), Value.string (ByteArray.mk #[108, 97, 115,
  116, 45, 109, 111, 100, 105, 102, 105, 101, 100]), Value.string (shZ (IntKind.wrap IntKind.i64 ((784111777 : Int) - IntKind.wrap IntKind.i64 (↑a : Int))))] true (Ob.cells
  true)) (0 : Int) (200 : Int) 4607182418800017408 == IntKind.wrap IntKind.i64 (↑a : Int)) (((((True /\ (True /\ (True /\ (True /\ (True /\ (True /\ (True /\ ((4 <= 4 /\
  Plain [Value.string (ByteArray.mk #[100, 97, 116, 101]), Value.string (shZ (784111777 : Int)), Value.string (ByteArray.mk #[108, 97, 115, 116, 45, 109, 111, 100, 105, 102,
  105, 101, 100]), Value.string (shZ (IntKind.wrap IntKind.i64 ((784111777 : Int) - IntKind.wrap IntKind.i64 (↑a : Int))))]) /\ (True /\ (True /\ (True /\ (True /\
  True)))))))))))) /\ (True /\ True)) /\ ((True /\ (True /\ True)) /\ (True /\ (IsF (Row.mk [] true (Ob.cells true)) 0 /\ (IsF (Row.mk [Value.string (ByteArray.mk #[100, 97,
  116, 101]), Value.string (shZ (784111777 : Int)), Value.string (ByteArray.mk #[108, 97, 115, 116, 45, 109, 111, 100, 105, 102, 105, 101, 100]), Value.string (shZ
  (IntKind.wrap IntKind.i64 ((784111777 : Int) - IntKind.wrap IntKind.i64 (↑a : Int))))] true (Ob.cells true)) 2 /\ (0 <= maxLen /\ (2 <= maxLen /\ BgR (Row.mk [Value.string
  (ByteArray.mk #[100, 97, 116, 101]), Value.string (shZ (784111777 : Int)), Value.string (ByteArray.mk #[108, 97, 115, 116, 45, 109, 111, 100, 105, 102, 105, 101, 100]),
  Value.string (shZ (IntKind.wrap IntKind.i64 ((784111777 : Int) - IntKind.wrap IntKind.i64 (↑a : Int))))] true (Ob.cells true)))))))))) /\ (br (lifeR (Row.mk [Value.string
  (ByteArray.mk #[100, 97, 116, 101]), Value.string (shZ (784111777 : Int)), Value.string (ByteArray.mk #[108, 97, 115, 116, 45, 109, 111, 100, 105, 102, 105, 101, 100]),
  Value.string (shZ (IntKind.wrap IntKind.i64 ((784111777 : Int) - IntKind.wrap IntKind.i64 (↑a : Int))))] true (Ob.cells true)) (0 : Int) (200 : Int) 4620130267728707584 ==
  IntKind.wrap IntKind.i64 (↑a : Int)) (((((True /\ (True /\ (True /\ (True /\ (True /\ (True /\ (True /\ ((4 <= 4 /\ Plain [Value.string (ByteArray.mk #[100, 97, 116,
  101]), Value.string (shZ (784111777 : Int)), Value.string (ByteArray.mk #[108, 97, 115, 116, 45, 109, 111, 100, 105, 102, 105, 101, 100]), Value.string (shZ (IntKind.wrap
  IntKind.i64 ((784111777 : Int) - IntKind.wrap IntKind.i64 (↑a : Int))))]) /\ (True /\ (True /\ (True /\ (True /\ True)))))))))))) /\ (True /\ True)) /\ ((True /\ (True /\
  True)) /\ (True /\ (IsF (Row.mk [] true (Ob.cells true)) 0 /\ (IsF (Row.mk [Value.string (ByteArray.mk #[100, 97, 116, 101]), Value.string (shZ (784111777 : Int)),
  Value.string (ByteArray.mk #[108, 97, 115, 116, 45, 109, 111, 100, 105, 102, 105, 101, 100]), Value.string (shZ (IntKind.wrap IntKind.i64 ((784111777 : Int) - IntKind.wrap
  IntKind.i64 (↑a : Int))))] true (Ob.cells true)) 2 /\ (0 <= maxLen /\ (2 <= maxLen /\ BgR (Row.mk [Value.string (ByteArray.mk #[100, 97, 116, 101]), Value.string (shZ
  (784111777 : Int)), Value.string (ByteArray.mk #[108, 97, 115, 116, 45, 109, 111, 100, 105, 102, 105, 101, 100]), Value.string (shZ (IntKind.wrap IntKind.i64 ((784111777 :
  Int) - IntKind.wrap IntKind.i64 (↑a : Int))))] true (Ob.cells true)))))))))) /\ (br (lifeR (Row.mk [Value.string (ByteArray.mk #[100, 97, 116, 101]), Value.string (shZ
  (784111777 : Int)), Value.string (ByteArray.mk #[108, 97, 115, 116, 45, 109, 111, 100, 105, 102, 105, 101, 100]), Value.string (shZ (IntKind.wrap IntKind.i64 ((784111777 :
  Int) - IntKind.wrap IntKind.i64 (↑a : Int))))] true (Ob.cells true)) (0 : Int) (200 : Int) 0 == (0 : Int)) (((((True /\ (True /\ (True /\ (True /\ (True /\ (True /\ (True
  /\ ((4 <= 4 /\ Plain [Value.string (ByteArray.mk #[100, 97, 116, 101]), Value.string (shZ (784111777 : Int)), Value.string (ByteArray.mk #[108, 97, 115, 116, 45, 109, 111,
  100, 105, 102, 105, 101, 100]), Value.string (shZ (IntKind.wrap IntKind.i64 ((784111777 : Int) - IntKind.wrap IntKind.i64 (↑a : Int))))]) /\ (True /\ (True /\ (True /\
  (True /\ True)))))))))))) /\ (True /\ True)) /\ ((True /\ (True /\ True)) /\ (True /\ (IsF (Row.mk [] true (Ob.cells true)) 0 /\ (IsF (Row.mk [Value.string (ByteArray.mk
  #[100, 97, 116, 101]), Value.string (shZ (784111777 : Int)), Value.string (ByteArray.mk #[108, 97, 115, 116, 45, 109, 111, 100, 105, 102, 105, 101, 100]), Value.string
  (shZ (IntKind.wrap IntKind.i64 ((784111777 : Int) - IntKind.wrap IntKind.i64 (↑a : Int))))] true (Ob.cells true)) 2 /\ (0 <= maxLen /\ (2 <= maxLen /\ BgR (Row.mk
  [Value.string (ByteArray.mk #[100, 97, 116, 101]), Value.string (shZ (784111777 : Int)), Value.string (ByteArray.mk #[108, 97, 115, 116, 45, 109, 111, 100, 105, 102, 105,
  101, 100]), Value.string (shZ (IntKind.wrap IntKind.i64 ((784111777 : Int) - IntKind.wrap IntKind.i64 (↑a : Int))))] true (Ob.cells true)))))))))) /\ (br (lifeR (Row.mk
  [Value.string (ByteArray.mk #[100, 97, 116, 101]), Value.string (shZ (784111777 : Int)), Value.string (ByteArray.mk #[108, 97, 115, 116, 45, 109, 111, 100, 105, 102, 105,
  101, 100]), Value.string (shZ (IntKind.wrap IntKind.i64 ((784111777 : Int) - IntKind.wrap IntKind.i64 (↑a : Int))))] true (Ob.cells true)) (0 : Int) (200 : Int)
  9221120237041090561 == (0 : Int)) (∃ r : Nat, ((Eq (α := Option Nat) (some 18442240474082181120) (some r)) /\ (((((True /\ (True /\ (True /\ (True /\ (True /\ (True /\
  (True /\ ((4 <= 4 /\ Plain [Value.string (ByteArray.mk #[100, 97, 116, 101]), Value.string (shZ (784111777 : Int)), Value.string (ByteArray.mk #[108, 97, 115, 116, 45,
  109, 111, 100, 105, 102, 105, 101, 100]), Value.string (shZ (IntKind.wrap IntKind.i64 ((784111777 : Int) - IntKind.wrap IntKind.i64 (↑a : Int))))]) /\ (True /\ (True /\
  (True /\ (True /\ True)))))))))))) /\ (True /\ True)) /\ ((True /\ (True /\ True)) /\ (True /\ (IsF (Row.mk [] true (Ob.cells true)) 0 /\ (IsF (Row.mk [Value.string
  (ByteArray.mk #[100, 97, 116, 101]), Value.string (shZ (784111777 : Int)), Value.string (ByteArray.mk #[108, 97, 115, 116, 45, 109, 111, 100, 105, 102, 105, 101, 100]),
  Value.string (shZ (IntKind.wrap IntKind.i64 ((784111777 : Int) - IntKind.wrap IntKind.i64 (↑a : Int))))] true (Ob.cells true)) 2 /\ (0 <= maxLen /\ (2 <= maxLen /\ BgR
  (Row.mk [Value.string (ByteArray.mk #[100, 97, 116, 101]), Value.string (shZ (784111777 : Int)), Value.string (ByteArray.mk #[108, 97, 115, 116, 45, 109, 111, 100, 105,
  102, 105, 101, 100]), Value.string (shZ (IntKind.wrap IntKind.i64 ((784111777 : Int) - IntKind.wrap IntKind.i64 (↑a : Int))))] true (Ob.cells true)))))))))) /\ (br (lifeR
  (Row.mk [Value.string (ByteArray.mk #[100, 97, 116, 101]), Value.string (shZ (784111777 : Int)), Value.string (ByteArray.mk #[108, 97, 115, 116, 45, 109, 111, 100, 105,
  102, 105, 101, 100]), Value.string (shZ (IntKind.wrap IntKind.i64 ((784111777 : Int) - IntKind.wrap IntKind.i64 (↑a : Int))))] true (Ob.cells true)) (0 : Int) (200 : Int)
  r == (0 : Int)) (∃ r2 : Nat, ((Eq (α := Option Nat) (some 9218868437227405312) (some r2)) /\ (((((True /\ (True /\ (True /\ (True /\ (True /\ (True /\ (True /\ ((4 <= 4 /\
  Plain [Value.string (ByteArray.mk #[100, 97, 116, 101]), Value.string (shZ (784111777 : Int)), Value.string (ByteArray.mk #[108, 97, 115, 116, 45, 109, 111, 100, 105, 102,
  105, 101, 100]), Value.string (shZ (IntKind.wrap IntKind.i64 ((784111777 : Int) - IntKind.wrap IntKind.i64 (↑a : Int))))]) /\ (True /\ (True /\ (True /\ (True /\
  True)))))))))))) /\ (True /\ True)) /\ ((True /\ (True /\ True)) /\ (True /\ (IsF (Row.mk [] true (Ob.cells true)) 0 /\ (IsF (Row.mk [Value.string (ByteArray.mk #[100, 97,
  116, 101]), Value.string (shZ (784111777 : Int)), Value.string (ByteArray.mk #[108, 97, 115, 116, 45, 109, 111, 100, 105, 102, 105, 101, 100]), Value.string (shZ
  (IntKind.wrap IntKind.i64 ((784111777 : Int) - IntKind.wrap IntKind.i64 (↑a : Int))))] true (Ob.cells true)) 2 /\ (0 <= maxLen /\ (2 <= maxLen /\ BgR (Row.mk [Value.string
  (ByteArray.mk #[100, 97, 116, 101]), Value.string (shZ (784111777 : Int)), Value.string (ByteArray.mk #[108, 97, 115, 116, 45, 109, 111, 100, 105, 102, 105, 101, 100]),
  Value.string (shZ (IntKind.wrap IntKind.i64 ((784111777 : Int) - IntKind.wrap IntKind.i64 (↑a : Int))))] true (Ob.cells true)))))))))) /\ ((((True /\ True) /\ (True /\
  (True /\ ((0 : Int) <= IntKind.wrap IntKind.i64 (↑b : Int) /\ IntKind.wrap IntKind.i64 (↑b : Int) <= (1000000000000 : Int)))))) /\ (br (decide (8 + List.length
  (Array.toList (ByteArray.data (dgZ (IntKind.wrap IntKind.i64 (↑b : Int))))) <= 9223372036854775807)) ((Value.slice (some (Addr.mk 2 0 none)) 2 2 = Value.slice (some
  (Addr.mk 2 0 none)) 2 2) /\ ((Value.slice (some (Addr.mk 2 0 none)) 2 2 = Value.slice (some (Addr.mk 2 0 none)) 2 2) /\ ((Value.slice (some (Addr.mk 2 0 none)) 2 2 =
  Value.slice (some (Addr.mk 2 0 none)) 2 2) /\ ((Value.int IntKind.i64 (IntKind.wrap IntKind.i64 (↑b : Int)) = Value.int IntKind.i64 (IntKind.wrap IntKind.i64 (↑b : Int)))
  /\ (br (lifeR (Row.mk [Value.string (ByteArray.mk #[100, 97, 116, 101]), Value.string (shZ (784111777 : Int)), Value.string (ByteArray.mk #[108, 97, 115, 116, 45, 109,
  111, 100, 105, 102, 105, 101, 100]), Value.string (shZ (IntKind.wrap IntKind.i64 ((784111777 : Int) - IntKind.wrap IntKind.i64 (↑a : Int))))] true (Ob.cells true)) (0 :
  Int) (200 : Int) r2 == IntKind.wrap IntKind.i64 (↑a : Int)) (br (decide (lifeR (Row.mk [Value.string (ByteArray.mk #[100, 97, 116, 101]), Value.string (shZ (784111777 :
  Int)), Value.string (ByteArray.mk #[108, 97, 115, 116, 45, 109, 111, 100, 105, 102, 105, 101, 100]), Value.string (shZ (IntKind.wrap IntKind.i64 ((784111777 : Int) -
  IntKind.wrap IntKind.i64 (↑a : Int))))] true (Ob.cells true)) (0 : Int) (200 : Int) sh ≥ (0 : Int))) (br (decide (lifeR (Row.mk [Value.string (ByteArray.mk #[100, 97, 116,
  101]), Value.string (shZ (784111777 : Int)), Value.string (ByteArray.mk #[108, 97, 115, 116, 45, 109, 111, 100, 105, 102, 105, 101, 100]), Value.string (shZ (IntKind.wrap
  IntKind.i64 ((784111777 : Int) - IntKind.wrap IntKind.i64 (↑a : Int))))] true (Ob.cells true)) (0 : Int) (200 : Int) sh <= IntKind.wrap IntKind.i64 (↑a : Int))) (((((True
  /\ (True /\ (True /\ (True /\ (True /\ (True /\ (True /\ ((6 <= 6 /\ Plain [Value.string (ByteArray.mk #[100, 97, 116, 101]), Value.string (shZ (784111777 : Int)),
  Value.string (ByteArray.mk #[108, 97, 115, 116, 45, 109, 111, 100, 105, 102, 105, 101, 100]), Value.string (shZ (IntKind.wrap IntKind.i64 ((784111777 : Int) - IntKind.wrap
  IntKind.i64 (↑a : Int)))), Value.string (ByteArray.mk #[99, 97, 99, 104, 101, 45, 99, 111, 110, 116, 114, 111, 108]), Value.string (ByteArray.mk #[109, 97, 120, 45, 97,
  103, 101, 61] ++ dgZ (IntKind.wrap IntKind.i64 (↑b : Int)))]) /\ (True /\ (True /\ (True /\ (True /\ True)))))))))))) /\ (True /\ True)) /\ ((True /\ (True /\ True)) /\
  (True /\ (IsF (Row.mk [] true (Ob.cells true)) 0 /\ (IsF (Row.mk [Value.string (ByteArray.mk #[100, 97, 116, 101]), Value.string (shZ (784111777 : Int)), Value.string
  (ByteArray.mk #[108, 97, 115, 116, 45, 109, 111, 100, 105, 102, 105, 101, 100]), Value.string (shZ (IntKind.wrap IntKind.i64 ((784111777 : Int) - IntKind.wrap IntKind.i64
  (↑a : Int)))), Value.string (ByteArray.mk #[99, 97, 99, 104, 101, 45, 99, 111, 110, 116, 114, 111, 108]), Value.string (ByteArray.mk #[109, 97, 120, 45, 97, 103, 101, 61]
  ++ dgZ (IntKind.wrap IntKind.i64 (↑b : Int)))] true (Ob.cells true)) 3 /\ (0 <= maxLen /\ (2 + 1 <= maxLen /\ BgR (Row.mk [Value.string (ByteArray.mk #[100, 97, 116,
  101]), Value.string (shZ (784111777 : Int)), Value.string (ByteArray.mk #[108, 97, 115, 116, 45, 109, 111, 100, 105, 102, 105, 101, 100]), Value.string (shZ (IntKind.wrap
  IntKind.i64 ((784111777 : Int) - IntKind.wrap IntKind.i64 (↑a : Int)))), Value.string (ByteArray.mk #[99, 97, 99, 104, 101, 45, 99, 111, 110, 116, 114, 111, 108]),
  Value.string (ByteArray.mk #[109, 97, 120, 45, 97, 103, 101, 61] ++ dgZ (IntKind.wrap IntKind.i64 (↑b : Int)))] true (Ob.cells true)))))))))) /\ (br (lifeR (Row.mk
  [Value.string (ByteArray.mk #[100, 97, 116, 101]), Value.string (shZ (784111777 : Int)), Value.string (ByteArray.mk #[108, 97, 115, 116, 45, 109, 111, 100, 105, 102, 105,
  101, 100]), Value.string (shZ (IntKind.wrap IntKind.i64 ((784111777 : Int) - IntKind.wrap IntKind.i64 (↑a : Int)))), Value.string (ByteArray.mk #[99, 97, 99, 104, 101, 45,
  99, 111, 110, 116, 114, 111, 108]), Value.string (ByteArray.mk #[109, 97, 120, 45, 97, 103, 101, 61] ++ dgZ (IntKind.wrap IntKind.i64 (↑b : Int)))] true (Ob.cells true))
  (0 : Int) (200 : Int) sh == IntKind.wrap IntKind.i64 (↑b : Int)) (((True /\ (True /\ (True /\ True)))) /\ ((true = true) /\ True)) ((true = false) /\ True))) ((true =
  false) /\ True)) ((true = false) /\ True)) ((true = false) /\ True)))))) False))))) ((((True /\ True) /\ (True /\ (True /\ ((0 : Int) <= IntKind.wrap IntKind.i64 (↑b :
  Int) /\ IntKind.wrap IntKind.i64 (↑b : Int) <= (1000000000000 : Int)))))) /\ (br (decide (8 + List.length (Array.toList (ByteArray.data (dgZ (IntKind.wrap IntKind.i64 (↑b
  : Int))))) <= 9223372036854775807)) ((Value.slice (some (Addr.mk 2 0 none)) 2 2 = Value.slice (some (Addr.mk 2 0 none)) 2 2) /\ ((Value.slice (some (Addr.mk 2 0 none)) 2 2
  = Value.slice (some (Addr.mk 2 0 none)) 2 2) /\ ((Value.slice (some (Addr.mk 2 0 none)) 2 2 = Value.slice (some (Addr.mk 2 0 none)) 2 2) /\ ((Value.int IntKind.i64
  (IntKind.wrap IntKind.i64 (↑b : Int)) = Value.int IntKind.i64 (IntKind.wrap IntKind.i64 (↑b : Int))) /\ ((true = false) /\ True))))) False)))))) ((((True /\ True) /\ (True
  /\ (True /\ ((0 : Int) <= IntKind.wrap IntKind.i64 (↑b : Int) /\ IntKind.wrap IntKind.i64 (↑b : Int) <= (1000000000000 : Int)))))) /\ (br (decide (8 + List.length
  (Array.toList (ByteArray.data (dgZ (IntKind.wrap IntKind.i64 (↑b : Int))))) <= 9223372036854775807)) ((Value.slice (some (Addr.mk 2 0 none)) 2 2 = Value.slice (some
  (Addr.mk 2 0 none)) 2 2) /\ ((Value.slice (some (Addr.mk 2 0 none)) 2 2 = Value.slice (some (Addr.mk 2 0 none)) 2 2) /\ ((Value.slice (some (Addr.mk 2 0 none)) 2 2 =
  Value.slice (some (Addr.mk 2 0 none)) 2 2) /\ ((Value.int IntKind.i64 (IntKind.wrap IntKind.i64 (↑b : Int)) = Value.int IntKind.i64 (IntKind.wrap IntKind.i64 (↑b : Int)))
  /\ ((true = false) /\ True))))) False)))) ((((True /\ True) /\ (True /\ (True /\ ((0 : Int) <= IntKind.wrap IntKind.i64 (↑b : Int) /\ IntKind.wrap IntKind.i64 (↑b : Int)
  <= (1000000000000 : Int)))))) /\ (br (decide (8 + List.length (Array.toList (ByteArray.data (dgZ (IntKind.wrap IntKind.i64 (↑b : Int))))) <= 9223372036854775807))
  ((Value.slice (some (Addr.mk 2 0 none)) 2 2 = Value.slice (some (Addr.mk 2 0 none)) 2 2) /\ ((Value.slice (some (Addr.mk 2 0 none)) 2 2 = Value.slice (some (Addr.mk 2 0
  none)) 2 2) /\ ((Value.slice (some (Addr.mk 2 0 none)) 2 2 = Value.slice (some (Addr.mk 2 0 none)) 2 2) /\ ((Value.int IntKind.i64 (IntKind.wrap IntKind.i64 (↑b : Int)) =
  Value.int IntKind.i64 (IntKind.wrap IntKind.i64 (↑b : Int))) /\ ((true = false) /\ True))))) False)))) ((((True /\ True) /\ (True /\ (True /\ ((0 : Int) <= IntKind.wrap
  IntKind.i64 (↑b : Int) /\ IntKind.wrap IntKind.i64 (↑b : Int) <= (1000000000000 : Int)))))) /\ (br (decide (8 + List.length (Array.toList (ByteArray.data (dgZ
  (IntKind.wrap IntKind.i64 (↑b : Int))))) <= 9223372036854775807)) ((Value.slice (some (Addr.mk 2 0 none)) 2 2 = Value.slice (some (Addr.mk 2 0 none)) 2 2) /\ ((Value.slice
  (some (Addr.mk 2 0 none)) 2 2 = Value.slice (some (Addr.mk 2 0 none)) 2 2) /\ ((Value.slice (some (Addr.mk 2 0 none)) 2 2 = Value.slice (some (Addr.mk 2 0 none)) 2 2) /\
  ((Value.int IntKind.i64 (IntKind.wrap IntKind.i64 (↑b : Int)) = Value.int IntKind.i64 (IntKind.wrap IntKind.i64 (↑b : Int))) /\ ((true = false) /\ True))))) False))))
  ((((True /\ True) /\ (True /\ (True /\ ((0 : Int) <= IntKind.wrap IntKind.i64 (↑b : Int) /\ IntKind.wrap IntKind.i64 (↑b : Int) <= (1000000000000 : Int)))))) /\ (br
  (decide (8 + List.length (Array.toList (ByteArray.data (dgZ (IntKind.wrap IntKind.i64 (↑b : Int))))) <= 9223372036854775807)) ((Value.slice (some (Addr.mk 2 0 none)) 2 2 =
  Value.slice (some (Addr.mk 2 0 none)) 2 2) /\ ((Value.slice (some (Addr.mk 2 0 none)) 2 2 = Value.slice (some (Addr.mk 2 0 none)) 2 2) /\ ((Value.slice (some (Addr.mk 2 0
  none)) 2 2 = Value.slice (some (Addr.mk 2 0 none)) 2 2) /\ ((Value.int IntKind.i64 (IntKind.wrap IntKind.i64 (↑b : Int)) = Value.int IntKind.i64 (IntKind.wrap IntKind.i64
  (↑b : Int))) /\ ((true = false) /\ True))))) False))))))) := by kernel_rfl
theorem cl75 : Go.Proofs.Ytideeogedleabaa.fl.cl 4620130267728707584 = Go.Proofs.Ytideeogedleabaa.fl.one := by
  have hr : Go.Proofs.Ytideeogedleabaa.fl.rd 4620130267728707584 = .number false 8444249301319680 (-50) := by decide
  have hn : Go.Proofs.Ytideeogedleabaa.fl.nn 4620130267728707584 = false := by decide
  have hf : Go.Proofs.Ytideeogedleabaa.fl.fv 4620130267728707584 = ((8444249301319680 * Go.Proofs.Ytideeogedleabaa.fl.p2 1024 : Nat) : Int) := by
    unfold Go.Proofs.Ytideeogedleabaa.fl.fv
    rw [hr, Go.Proofs.Ytideeogedleabaa.fl.dv_num, if_neg (by decide), show ((-50 : Int) + 1074).toNat = 1024 by decide]
  have hp : Go.Proofs.Ytideeogedleabaa.fl.p2 1074 = 1125899906842624 * Go.Proofs.Ytideeogedleabaa.fl.p2 1024 := by
    rw [show (1074 : Nat) = 50 + 1024 from rfl, Go.Proofs.Ytideeogedleabaa.fl.p2_add, show Go.Proofs.Ytideeogedleabaa.fl.p2 50 = 1125899906842624 by decide]
  have h0 := Go.Proofs.Ytideeogedleabaa.fl.p2_pos 1024
  unfold Go.Proofs.Ytideeogedleabaa.fl.cl
  rw [hf, hp]
  generalize Go.Proofs.Ytideeogedleabaa.fl.p2 1024 = q at *
  rw [if_pos ⟨hn, by omega⟩, if_pos (by omega)]
theorem clInf : Go.Proofs.Ytideeogedleabaa.fl.cl 9218868437227405312 = Go.Proofs.Ytideeogedleabaa.fl.one := by
  have hr : Go.Proofs.Ytideeogedleabaa.fl.rd 9218868437227405312 = .infinity false := by decide
  have hn : Go.Proofs.Ytideeogedleabaa.fl.nn 9218868437227405312 = false := by decide
  have hf : Go.Proofs.Ytideeogedleabaa.fl.fv 9218868437227405312 = ((Go.Proofs.Ytideeogedleabaa.fl.p2 2200 : Nat) : Int) := by
    unfold Go.Proofs.Ytideeogedleabaa.fl.fv; rw [hr]; rfl
  have h0 := Go.Proofs.Ytideeogedleabaa.fl.p2_pos 1074
  have h1 := Go.Proofs.Ytideeogedleabaa.fl.p2_lt (show 1074 < 2200 by omega)
  unfold Go.Proofs.Ytideeogedleabaa.fl.cl
  rw [hf]
  generalize Go.Proofs.Ytideeogedleabaa.fl.p2 1074 = q at *
  generalize Go.Proofs.Ytideeogedleabaa.fl.p2 2200 = r at *
  rw [if_pos ⟨hn, by omega⟩, if_pos (by omega)]
theorem clNinf : Go.Proofs.Ytideeogedleabaa.fl.cl 18442240474082181120 = 0 := by
  have hr : Go.Proofs.Ytideeogedleabaa.fl.rd 18442240474082181120 = .infinity true := by decide
  have hf : Go.Proofs.Ytideeogedleabaa.fl.fv 18442240474082181120 = -((Go.Proofs.Ytideeogedleabaa.fl.p2 2200 : Nat) : Int) := by
    unfold Go.Proofs.Ytideeogedleabaa.fl.fv; rw [hr]; rfl
  have h1 := Go.Proofs.Ytideeogedleabaa.fl.p2_pos 2200
  unfold Go.Proofs.Ytideeogedleabaa.fl.cl
  rw [hf]
  generalize Go.Proofs.Ytideeogedleabaa.fl.p2 2200 = r at *
  rw [if_neg (by omega)]
theorem life_w (T U : List UInt8) (n d w : Nat) (hn : n ≤ 2000000000) (hd : d ≤ n) (hT : rdL T = some n) (hU : rdL U = some (n - d)) : lifeL (fA2 T U) 0 200 w = Go.Proofs.Ytideeogedleabaa.fl.shr (d : Int) (Go.Proofs.Ytideeogedleabaa.fl.cl w) := by
  have e1 : dtO (fA2 T U) sDate = some n := by simp [dtO, fA2, allN, allL, allS, nm_ne, hT]
  have e2 : dtO (fA2 T U) sLast = some (n - d) := by simp [dtO, fA2, allN, allL, allS, nm_ne, hU]
  have e3 : allN sExp (fA2 T U) = 0 := by simp [fA2, allN, nm_ne]
  have e4 : orL (fA2 T U) 0 = n := by unfold orL; rw [e1]; rfl
  unfold lifeL
  rw [ctl_a2, e2, e3, e4]
  rw [if_neg (by decide), if_neg (by decide), if_neg (by omega), if_pos ⟨rfl, by simp only [dtJ]; omega, by decide⟩]
  have : Go.Proofs.Ytideeogedleabaa.fl.lim ((n : Int) - dtJ (some (n - d))) = d := by unfold Go.Proofs.Ytideeogedleabaa.fl.lim; simp only [dtJ]; omega
  rw [this]
def fN3 (T U M : List UInt8) : List Fl := [⟨sDate, T⟩, ⟨sLast, U⟩, ⟨sCC, M⟩]
theorem life_n3 (T U : List UInt8) (b sh : Nat) (hb : b ≤ 2147483647) : lifeL (fN3 T U (eqT sMaxAge (dgL b))) 0 200 sh = b := by
  have hc : ctlL (fN3 T U (eqT sMaxAge (dgL b))) = ctMa b := by
    rw [← ct_ma b hb]
    exact ctl_all (by simp [fN3, allL, allS, nm_ne])
  unfold lifeL
  rw [hc]
  rw [if_neg (by simp [ctMa]), if_pos (by simp [ctMa])]; rfl
theorem fn_law (a b : Int) (sh : Nat) (ha : (Lit.int .u16 a).wf = true) (hb : (Lit.int .u16 b).wf = true) :
    Con Try.prog 6 [.int .u16 a, .int .u16 b, .float .f64 sh] [] (.bool true) [] := by
  have ha := wf16 ha
  have hb := wf16 hb
  obtain ⟨a, rfl⟩ : ∃ k : Nat, a = (k : Nat) := ⟨a.toNat, by omega⟩
  obtain ⟨b, rfl⟩ : ∃ k : Nat, b = (k : Nat) := ⟨b.toNat, by omega⟩
  refine con_vc (E := EnF) mixed (calls_envTn tFs_ok) (lok_envTn _ _) (M := noM) lm_none (Fn_vc a b sh) ?_
  have hm : maxLen = 9223372036854775807 := by unfold maxLen; rfl
  simp only [ofNat_eq, toNat_cast, Nat.zero_add, Nat.add_zero, Nat.mul_one, List.drop_zero, bCells_len, bCells_drop, bCells_take, bCells_app, bCells_one, bCells_plain, List.length_replicate, List.length_append, List.length_take, List.length_drop, List.take_length, and_true, true_and, and_self, decide_true, List.length_nil, List.length_cons, Nat.sub_zero, dB_mk, dB_ro, List.take_zero, fPl, fLen, fTake, z_lifeR]
  have w : ∀ k : Nat, k < 65536 → IntKind.i64.wrap (k : Int) = (k : Int) := fun k hk => wr64_id (by unfold I64; omega)
  have e1 : IntKind.i64.wrap (784111777 - (a : Int)) = ((784111777 - a : Nat) : Int) := by rw [wr64_id (by unfold I64; omega)]; omega
  have e3 : shZ 784111777 = bs (shL 784111777) := sh_nat 784111777 (by omega)
  have d1 : (⟨#[109, 97, 120, 45, 97, 103, 101, 61]⟩ : ByteArray) ++ bs (dgL b) = bs (eqT sMaxAge (dgL b)) := by
    rw [show (⟨#[109, 97, 120, 45, 97, 103, 101, 61]⟩ : ByteArray) = bs (sMaxAge ++ [61]) from rfl, bs_app]; unfold eqT; simp
  have lb := dgL_len b 5 (by omega) (by omega)
  have bb : (bs (dgL b)).data.toList.length = (dgL b).length := bs_len _
  simp only [w a (by omega), w b (by omega)]
  simp only [e1, e3, sh_nat (784111777 - a) (by omega), z_dgZ, bb, d1]
  have lT := shL_len 784111777
  have lU := shL_len (784111777 - a)
  have hT := rd_sh 784111777 (by omega)
  have hU := rd_sh (784111777 - a) (by omega)
  generalize shL 784111777 = T at *
  generalize shL (784111777 - a) = U at *
  have g2 : [Value.string ⟨#[100, 97, 116, 101]⟩, Value.string (bs T), Value.string ⟨#[108, 97, 115, 116, 45, 109, 111, 100, 105, 102, 105, 101, 100]⟩, Value.string (bs U)] = gC enF (fA2 T U) := rfl
  have g3 : ∀ M, [Value.string ⟨#[100, 97, 116, 101]⟩, Value.string (bs T), Value.string ⟨#[108, 97, 115, 116, 45, 109, 111, 100, 105, 102, 105, 101, 100]⟩, Value.string (bs U), Value.string ⟨#[99, 97, 99, 104, 101, 45, 99, 111, 110, 116, 114, 111, 108]⟩, Value.string (bs M)] = gC enF (fN3 T U M) := fun M => rfl
  simp only [g2, g3, decF_gC, fPl]
  have lM : (eqT sMaxAge (dgL b)).length ≤ 100 := by unfold eqT; rw [List.length_append, List.length_cons]; have h20 := (by decide : sMaxAge.length ≤ 20); omega
  have q1 : sDate.length ≤ 100 ∧ sLast.length ≤ 100 ∧ sCC.length ≤ 100 := by decide
  have i0 : IsF ⟨[], true, .cells true⟩ 0 := isF_mk [] _ rfl
  have b2 : BgR ⟨gC enF (fA2 T U), true, .cells true⟩ := bgR_mk _ _ _ (big_f _ (by intro f hf; simp only [fA2, List.mem_cons, List.not_mem_nil, or_false] at hf; rcases hf with rfl | rfl <;> simp only <;> omega) (by simp [fA2]))
  have b3 : BgR ⟨gC enF (fN3 T U (eqT sMaxAge (dgL b))), true, .cells true⟩ := bgR_mk _ _ _ (big_f _ (by intro f hf; simp only [fN3, List.mem_cons, List.not_mem_nil, or_false] at hf; rcases hf with rfl | rfl | rfl <;> simp only <;> omega) (by simp [fN3]))
  have i2 : IsF ⟨gC enF (fA2 T U), true, .cells true⟩ 2 := isF_mk _ _ rfl
  have i3 : IsF ⟨gC enF (fN3 T U (eqT sMaxAge (dgL b))), true, .cells true⟩ 3 := isF_mk _ _ rfl
  have lw : ∀ w, lifeL (fA2 T U) 0 200 w = Go.Proofs.Ytideeogedleabaa.fl.shr (a : Int) (Go.Proofs.Ytideeogedleabaa.fl.cl w) := fun w => life_w T U 784111777 a w (by omega) (by omega) hT hU
  have s1 := Go.Proofs.Ytideeogedleabaa.fl.shr_one (a : Int) (by omega) (by omega)
  have s0 := Go.Proofs.Ytideeogedleabaa.fl.shr_zero (a : Int)
  have cn : Go.Proofs.Ytideeogedleabaa.fl.cl 9221120237041090561 = 0 := Go.Proofs.Ytideeogedleabaa.fl.cl_nan (by decide)
  have c1 : Go.Proofs.Ytideeogedleabaa.fl.cl 4607182418800017408 = Go.Proofs.Ytideeogedleabaa.fl.one := Go.Proofs.Ytideeogedleabaa.fl.cl_one
  have sl := Go.Proofs.Ytideeogedleabaa.fl.shr_le (a : Int) (Go.Proofs.Ytideeogedleabaa.fl.cl sh) (by omega) (by omega) (Go.Proofs.Ytideeogedleabaa.fl.cl_unit sh)
  have z0 : (0 : Nat) ≤ maxLen := Nat.zero_le _
  have z2 : (2 : Nat) ≤ maxLen := by omega
  have z3 : (3 : Nat) ≤ maxLen := by omega
  simp only [i0, i2, i3, b2, b3, lw, life_n3 T U b sh (by omega), cl75, c1, cn, Go.Proofs.Ytideeogedleabaa.fl.cl_zero, s0, s1, z0, z2, z3, Nat.le_refl, and_self, true_and, and_true, Option.some.injEq, exists_eq_left', clInf, clNinf]
  exact br_b (by simp) (br_b (by simp) (br_b rfl (br_b rfl (br_b rfl ⟨⟨by omega, by omega⟩, br_dec (by omega) (br_b (by simp) (br_dec (by omega) (br_dec (by omega) (br_b (by simp) trivial))))⟩))))
end Go.Proofs.Ytideeogedleabaa.tk
