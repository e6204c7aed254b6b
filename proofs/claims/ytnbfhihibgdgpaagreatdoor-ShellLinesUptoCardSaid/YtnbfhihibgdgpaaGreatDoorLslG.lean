/- A step's line, as the document's text writes it. -/
import Derived.Test.YtnbfhihibgdgpaaGreatDoorSz9
import Derived.Test.YtnbfhihibgdgpaaGreatDoorRows
import Derived.Test.YtnbfhihibgdgpaaGreatDoorLslF
import Derived.Test.YtnbfhihibgdgpaaGreatDoorLslE
set_option maxRecDepth 20000
set_option linter.unusedSimpArgs false
set_option linter.unusedVariables false
namespace Go.Proofs.YtnbfhihibgdgpaaGreatDoor.sl
open Go Go.Ev Go.Sy Go.RowKit Go.Proofs.YtnbfhihibgdgpaaGreatDoor.gl Go.Proofs.YtnbfhihibgdgpaaGreatDoor.tk Go.Proofs.YtnbfhihibgdgpaaGreatDoor.it Go.Proofs.YtnbfhihibgdgpaaGreatDoor.sn
def rhS (l : List Rw) (h t : List UInt8) (e : Bool) : List UInt8 := h ++ ((if e = true then [32, 101, 110, 100, 32, 61] else [32, 111, 110, 32, 61]) ++ wordL t) ++ rwsL l
noncomputable def rhZ : Row → ByteArray → ByteArray → Bool → ByteArray := sealV fun r h t e => by
  classical exact if hh : ∃ l : List Rw, r.cells = gC enR l then bs (rhS (Classical.choose hh) (L h) (L t) e) else ⟨#[]⟩
def IsRk (r : Row) (n : Nat) : Prop := ∃ l : List Rw, r = gRo enR l ∧ n = l.length ∧ (∀ x ∈ l, okRw x ∧ x.h ≠ -9223372036854775808) ∧ (rwsL l).length ≤ 900000
noncomputable def eRl : EntM := entC 29 fun a r => match a, r with
  | [.string h, .agg ⟨[.int .i64 _, .int .i64 _, .int .i64 _, .int .i64 _, .slice (some ⟨0, 0, none⟩) n 3, .string t, .bool e]⟩], [r0] => some (IsRk r0 n ∧ n ≤ maxLen ∧ (L h).length ≤ 100 ∧ (L t).length ≤ 4000, .string (rhZ r0 h t e), [])
  | _, _ => none
noncomputable def tRg : List EntM := [eIr, eWr, eRl]
noncomputable abbrev EtRg : Env := envT Tryz.prog tRg
theorem Rf1_vc (g : GS) (v : ByteArray) : mcall EtRg noM 200 11 [.agg ⟨stpC { g with k := 1 }⟩] ⟨mkR (nums 0 [gRo enR g.l]), 1⟩ (retIs 1 (.string v) [gRo enR g.l]) =
  ((((True /\ True) /\ (True /\ (True /\ (I64 g.2 /\ g.2 ≠ (-9223372036854775808 : Int)))))) /\ (br (decide (5 + List.length (Array.toList (ByteArray.data (itoaB g.2))) <=
  9223372036854775807)) ((Value.int IntKind.i64 (1 : Int) = Value.int IntKind.i64 (1 : Int)) /\ ((Value.int IntKind.i64 (1 : Int) = Value.int IntKind.i64 (1 : Int)) /\
  ((Value.string (ByteArray.mk #[111, 112, 101, 110]) = Value.string (ByteArray.mk #[111, 112, 101, 110])) /\ ((Value.string (ByteArray.mk #[111, 112, 101, 110]) =
  Value.string (ByteArray.mk #[111, 112, 101, 110])) /\ ((Value.int IntKind.i64 g.2 = Value.int IntKind.i64 g.2) /\ ((v = ByteArray.mk #[111, 112, 101, 110] ++ ByteArray.mk
  #[32] ++ itoaB g.2) /\ ((Eq (α := List Value) (gC enR g.5) (gC enR g.5)) /\ ((Plain (gC enR g.5)) /\ True)))))))) False)) := by kernel_rfl
theorem Rf2_vc (g : GS) (v : ByteArray) : mcall EtRg noM 200 11 [.agg ⟨stpC { g with k := 2 }⟩] ⟨mkR (nums 0 [gRo enR g.l]), 1⟩ (retIs 1 (.string v) [gRo enR g.l]) =
  ((((True /\ True) /\ (True /\ (True /\ (I64 g.2 /\ g.2 ≠ (-9223372036854775808 : Int)))))) /\ (br (decide (4 + List.length (Array.toList (ByteArray.data (itoaB g.2))) <=
  9223372036854775807)) ((((True /\ ((True /\ (True /\ (True /\ (True /\ ((0 + List.length g.5 * 3 <= List.length (gC enR g.5) /\ Plain (List.take (List.length g.5 * 3)
  (List.drop 0 (gC enR g.5)))) /\ (True /\ (True /\ True))))))) /\ True)) /\ ((True /\ True) /\ (True /\ (IsRk (Row.mk (List.take (List.length g.5 * 3) (List.drop 0 (gC enR
  g.5))) true (Ob.cells true)) (List.length g.5) /\ (List.length g.5 <= 9223372036854775807 /\ (List.length (97 :: 115 :: 107 :: 32 :: ([] ++ Array.toList (ByteArray.data
  (itoaB g.2)))) <= 100 /\ List.length (L (bs g.6)) <= 4000))))))) /\ ((Value.int IntKind.i64 g.2 = Value.int IntKind.i64 g.2) /\ ((Value.agg (Array.mk [Value.int
  IntKind.i64 (2 : Int), Value.int IntKind.i64 g.2, Value.int IntKind.i64 g.3, Value.int IntKind.i64 g.4, Value.slice (some (Addr.mk 0 0 none)) (List.length g.5) 3,
  Value.string (bs g.6), Value.bool g.7]) = Value.agg (Array.mk [Value.int IntKind.i64 (2 : Int), Value.int IntKind.i64 g.2, Value.int IntKind.i64 g.3, Value.int IntKind.i64
  g.4, Value.slice (some (Addr.mk 0 0 none)) (List.length g.5) 3, Value.string (bs g.6), Value.bool g.7])) /\ ((Value.agg (Array.mk [Value.int IntKind.i64 (2 : Int),
  Value.int IntKind.i64 g.2, Value.int IntKind.i64 g.3, Value.int IntKind.i64 g.4, Value.slice (some (Addr.mk 0 0 none)) (List.length g.5) 3, Value.string (bs g.6),
  Value.bool g.7]) = Value.agg (Array.mk [Value.int IntKind.i64 (2 : Int), Value.int IntKind.i64 g.2, Value.int IntKind.i64 g.3, Value.int IntKind.i64 g.4, Value.slice (some
  (Addr.mk 0 0 none)) (List.length g.5) 3, Value.string (bs g.6), Value.bool g.7])) /\ ((v = rhZ (Row.mk (List.take (List.length g.5 * 3) (List.drop 0 (gC enR g.5))) true
  (Ob.cells true)) (ByteArray.mk #[97, 115, 107, 32] ++ itoaB g.2) (bs g.6) g.7) /\ ((Eq (α := List Value) (gC enR g.5) (gC enR g.5)) /\ ((Plain (gC enR g.5)) /\ True)))))))
  False)) := by kernel_rfl
theorem Rf3_vc (g : GS) (v : ByteArray) : mcall EtRg noM 200 11 [.agg ⟨stpC { g with k := 3 }⟩] ⟨mkR (nums 0 [gRo enR g.l]), 1⟩ (retIs 1 (.string v) [gRo enR g.l]) =
  ((((True /\ True) /\ (True /\ (True /\ (I64 g.2 /\ g.2 ≠ (-9223372036854775808 : Int)))))) /\ (br (decide (5 + List.length (Array.toList (ByteArray.data (itoaB g.2))) <=
  9223372036854775807)) (br (decide (List.length (116 :: 101 :: 120 :: 116 :: 32 :: ([] ++ Array.toList (ByteArray.data (itoaB g.2)))) + 1 <= 9223372036854775807)) ((((True
  /\ True) /\ (True /\ (True /\ (I64 g.4 /\ g.4 ≠ (-9223372036854775808 : Int)))))) /\ (br (decide (List.length (116 :: 101 :: 120 :: 116 :: 32 :: ([] ++ Array.toList
  (ByteArray.data (itoaB g.2)) ++ [32])) + List.length (Array.toList (ByteArray.data (itoaB g.4))) <= 9223372036854775807)) (br (g.7) (br (decide (List.length (116 :: 101 ::
  120 :: 116 :: 32 :: ([] ++ Array.toList (ByteArray.data (itoaB g.2)) ++ [32] ++ Array.toList (ByteArray.data (itoaB g.4)))) + 5 <= 9223372036854775807)) (br (decide
  (List.length (116 :: 101 :: 120 :: 116 :: 32 :: ([] ++ Array.toList (ByteArray.data (itoaB g.2)) ++ [32] ++ Array.toList (ByteArray.data (itoaB g.4)) ++ [32, 101, 110,
  100, 32])) + 1 <= 9223372036854775807)) ((((True /\ True) /\ (True /\ (True /\ List.length (L (bs g.6)) <= 4000)))) /\ (br (decide (List.length (116 :: 101 :: 120 :: 116
  :: 32 :: ([] ++ Array.toList (ByteArray.data (itoaB g.2)) ++ [32] ++ Array.toList (ByteArray.data (itoaB g.4)) ++ [32, 101, 110, 100, 32] ++ [61])) + List.length
  (Array.toList (ByteArray.data (wordS (bs g.6)))) <= 9223372036854775807)) ((Value.int IntKind.i64 g.2 = Value.int IntKind.i64 g.2) /\ ((Value.int IntKind.i64 g.4 =
  Value.int IntKind.i64 g.4) /\ ((Value.int IntKind.i64 g.4 = Value.int IntKind.i64 g.4) /\ ((Value.agg (Array.mk [Value.int IntKind.i64 (3 : Int), Value.int IntKind.i64
  g.2, Value.int IntKind.i64 g.3, Value.int IntKind.i64 g.4, Value.slice (some (Addr.mk 0 0 none)) (List.length g.5) 3, Value.string (bs g.6), Value.bool g.7]) = Value.agg
  (Array.mk [Value.int IntKind.i64 (3 : Int), Value.int IntKind.i64 g.2, Value.int IntKind.i64 g.3, Value.int IntKind.i64 g.4, Value.slice (some (Addr.mk 0 0 none))
  (List.length g.5) 3, Value.string (bs g.6), Value.bool g.7])) /\ ((Value.agg (Array.mk [Value.int IntKind.i64 (3 : Int), Value.int IntKind.i64 g.2, Value.int IntKind.i64
  g.3, Value.int IntKind.i64 g.4, Value.slice (some (Addr.mk 0 0 none)) (List.length g.5) 3, Value.string (bs g.6), Value.bool g.7]) = Value.agg (Array.mk [Value.int
  IntKind.i64 (3 : Int), Value.int IntKind.i64 g.2, Value.int IntKind.i64 g.3, Value.int IntKind.i64 g.4, Value.slice (some (Addr.mk 0 0 none)) (List.length g.5) 3,
  Value.string (bs g.6), Value.bool g.7])) /\ ((Value.agg (Array.mk [Value.int IntKind.i64 (3 : Int), Value.int IntKind.i64 g.2, Value.int IntKind.i64 g.3, Value.int
  IntKind.i64 g.4, Value.slice (some (Addr.mk 0 0 none)) (List.length g.5) 3, Value.string (bs g.6), Value.bool g.7]) = Value.agg (Array.mk [Value.int IntKind.i64 (3 : Int),
  Value.int IntKind.i64 g.2, Value.int IntKind.i64 g.3, Value.int IntKind.i64 g.4, Value.slice (some (Addr.mk 0 0 none)) (List.length g.5) 3, Value.string (bs g.6),
  Value.bool g.7])) /\ ((v = ByteArray.mk #[116, 101, 120, 116, 32] ++ itoaB g.2 ++ ByteArray.mk #[32] ++ itoaB g.4 ++ ByteArray.mk #[32, 101, 110, 100, 32] ++ ByteArray.mk
  #[61] ++ wordS (bs g.6)) /\ ((Eq (α := List Value) (gC enR g.5) (gC enR g.5)) /\ ((Plain (gC enR g.5)) /\ True))))))))) False)) False) False) (br (decide (List.length (116
  :: 101 :: 120 :: 116 :: 32 :: ([] ++ Array.toList (ByteArray.data (itoaB g.2)) ++ [32] ++ Array.toList (ByteArray.data (itoaB g.4)))) + 4 <= 9223372036854775807)) (br
  (decide (List.length (116 :: 101 :: 120 :: 116 :: 32 :: ([] ++ Array.toList (ByteArray.data (itoaB g.2)) ++ [32] ++ Array.toList (ByteArray.data (itoaB g.4)) ++ [32, 111,
  110, 32])) + 1 <= 9223372036854775807)) ((((True /\ True) /\ (True /\ (True /\ List.length (L (bs g.6)) <= 4000)))) /\ (br (decide (List.length (116 :: 101 :: 120 :: 116
  :: 32 :: ([] ++ Array.toList (ByteArray.data (itoaB g.2)) ++ [32] ++ Array.toList (ByteArray.data (itoaB g.4)) ++ [32, 111, 110, 32] ++ [61])) + List.length (Array.toList
  (ByteArray.data (wordS (bs g.6)))) <= 9223372036854775807)) ((Value.int IntKind.i64 g.2 = Value.int IntKind.i64 g.2) /\ ((Value.int IntKind.i64 g.4 = Value.int IntKind.i64
  g.4) /\ ((Value.int IntKind.i64 g.4 = Value.int IntKind.i64 g.4) /\ ((Value.agg (Array.mk [Value.int IntKind.i64 (3 : Int), Value.int IntKind.i64 g.2, Value.int
  IntKind.i64 g.3, Value.int IntKind.i64 g.4, Value.slice (some (Addr.mk 0 0 none)) (List.length g.5) 3, Value.string (bs g.6), Value.bool g.7]) = Value.agg (Array.mk
  [Value.int IntKind.i64 (3 : Int), Value.int IntKind.i64 g.2, Value.int IntKind.i64 g.3, Value.int IntKind.i64 g.4, Value.slice (some (Addr.mk 0 0 none)) (List.length g.5)
  3, Value.string (bs g.6), Value.bool g.7])) /\ ((Value.agg (Array.mk [Value.int IntKind.i64 (3 : Int), Value.int IntKind.i64 g.2, Value.int IntKind.i64 g.3, Value.int
  IntKind.i64 g.4, Value.slice (some (Addr.mk 0 0 none)) (List.length g.5) 3, Value.string (bs g.6), Value.bool g.7]) = Value.agg (Array.mk [Value.int IntKind.i64 (3 : Int),
  Value.int IntKind.i64 g.2, Value.int IntKind.i64 g.3, Value.int IntKind.i64 g.4, Value.slice (some (Addr.mk 0 0 none)) (List.length g.5) 3, Value.string (bs g.6),
  Value.bool g.7])) /\ ((Value.agg (Array.mk [Value.int IntKind.i64 (3 : Int), Value.int IntKind.i64 g.2, Value.int IntKind.i64 g.3, Value.int IntKind.i64 g.4, Value.slice
  (some (Addr.mk 0 0 none)) (List.length g.5) 3, Value.string (bs g.6), Value.bool g.7]) = Value.agg (Array.mk [Value.int IntKind.i64 (3 : Int), Value.int IntKind.i64 g.2,
  Value.int IntKind.i64 g.3, Value.int IntKind.i64 g.4, Value.slice (some (Addr.mk 0 0 none)) (List.length g.5) 3, Value.string (bs g.6), Value.bool g.7])) /\ ((v =
  ByteArray.mk #[116, 101, 120, 116, 32] ++ itoaB g.2 ++ ByteArray.mk #[32] ++ itoaB g.4 ++ ByteArray.mk #[32, 111, 110, 32] ++ ByteArray.mk #[61] ++ wordS (bs g.6)) /\ ((Eq
  (α := List Value) (gC enR g.5) (gC enR g.5)) /\ ((Plain (gC enR g.5)) /\ True))))))))) False)) False) False)) False)) False) False)) := by kernel_rfl
theorem Rf4_vc (g : GS) (v : ByteArray) : mcall EtRg noM 200 11 [.agg ⟨stpC { g with k := 4 }⟩] ⟨mkR (nums 0 [gRo enR g.l]), 1⟩ (retIs 1 (.string v) [gRo enR g.l]) =
  ((((True /\ True) /\ (True /\ (True /\ (I64 g.2 /\ g.2 ≠ (-9223372036854775808 : Int)))))) /\ (br (decide (7 + List.length (Array.toList (ByteArray.data (itoaB g.2))) <=
  9223372036854775807)) (br (decide (List.length (99 :: 97 :: 110 :: 99 :: 101 :: 108 :: 32 :: ([] ++ Array.toList (ByteArray.data (itoaB g.2)))) + 1 <=
  9223372036854775807)) ((((True /\ True) /\ (True /\ (True /\ (I64 g.4 /\ g.4 ≠ (-9223372036854775808 : Int)))))) /\ (br (decide (List.length (99 :: 97 :: 110 :: 99 :: 101
  :: 108 :: 32 :: ([] ++ Array.toList (ByteArray.data (itoaB g.2)) ++ [32])) + List.length (Array.toList (ByteArray.data (itoaB g.4))) <= 9223372036854775807)) ((Value.int
  IntKind.i64 g.2 = Value.int IntKind.i64 g.2) /\ ((Value.int IntKind.i64 g.4 = Value.int IntKind.i64 g.4) /\ ((Value.int IntKind.i64 g.4 = Value.int IntKind.i64 g.4) /\ ((v
  = ByteArray.mk #[99, 97, 110, 99, 101, 108, 32] ++ itoaB g.2 ++ ByteArray.mk #[32] ++ itoaB g.4) /\ ((Eq (α := List Value) (gC enR g.5) (gC enR g.5)) /\ ((Plain (gC enR
  g.5)) /\ True)))))) False)) False) False)) := by kernel_rfl
theorem Rf5_vc (g : GS) (v : ByteArray) : mcall EtRg noM 200 11 [.agg ⟨stpC { g with k := 5 }⟩] ⟨mkR (nums 0 [gRo enR g.l]), 1⟩ (retIs 1 (.string v) [gRo enR g.l]) =
  ((((True /\ True) /\ (True /\ (True /\ (I64 g.2 /\ g.2 ≠ (-9223372036854775808 : Int)))))) /\ (br (decide (6 + List.length (Array.toList (ByteArray.data (itoaB g.2))) <=
  9223372036854775807)) ((Value.int IntKind.i64 (5 : Int) = Value.int IntKind.i64 (5 : Int)) /\ ((Value.int IntKind.i64 (5 : Int) = Value.int IntKind.i64 (5 : Int)) /\
  ((Value.string (ByteArray.mk #[99, 108, 111, 115, 101]) = Value.string (ByteArray.mk #[99, 108, 111, 115, 101])) /\ ((Value.string (ByteArray.mk #[99, 108, 111, 115, 101])
  = Value.string (ByteArray.mk #[99, 108, 111, 115, 101])) /\ ((Value.int IntKind.i64 g.2 = Value.int IntKind.i64 g.2) /\ ((v = ByteArray.mk #[99, 108, 111, 115, 101] ++
  ByteArray.mk #[32] ++ itoaB g.2) /\ ((Eq (α := List Value) (gC enR g.5) (gC enR g.5)) /\ ((Plain (gC enR g.5)) /\ True)))))))) False)) := by kernel_rfl
theorem Rf6_vc (g : GS) (v : ByteArray) : mcall EtRg noM 200 11 [.agg ⟨stpC { g with k := 6 }⟩] ⟨mkR (nums 0 [gRo enR g.l]), 1⟩ (retIs 1 (.string v) [gRo enR g.l]) =
  ((((True /\ True) /\ (True /\ (True /\ (I64 g.2 /\ g.2 ≠ (-9223372036854775808 : Int)))))) /\ (br (decide (7 + List.length (Array.toList (ByteArray.data (itoaB g.2))) <=
  9223372036854775807)) (br (decide (List.length (97 :: 110 :: 115 :: 119 :: 101 :: 114 :: 32 :: ([] ++ Array.toList (ByteArray.data (itoaB g.2)))) + 1 <=
  9223372036854775807)) ((((True /\ True) /\ (True /\ (True /\ (I64 g.4 /\ g.4 ≠ (-9223372036854775808 : Int)))))) /\ (br (decide (List.length (97 :: 110 :: 115 :: 119 ::
  101 :: 114 :: 32 :: ([] ++ Array.toList (ByteArray.data (itoaB g.2)) ++ [32])) + List.length (Array.toList (ByteArray.data (itoaB g.4))) <= 9223372036854775807)) ((((True
  /\ ((True /\ (True /\ (True /\ (True /\ ((0 + List.length g.5 * 3 <= List.length (gC enR g.5) /\ Plain (List.take (List.length g.5 * 3) (List.drop 0 (gC enR g.5)))) /\
  (True /\ (True /\ True))))))) /\ True)) /\ ((True /\ True) /\ (True /\ (IsRk (Row.mk (List.take (List.length g.5 * 3) (List.drop 0 (gC enR g.5))) true (Ob.cells true))
  (List.length g.5) /\ (List.length g.5 <= 9223372036854775807 /\ (List.length (97 :: 110 :: 115 :: 119 :: 101 :: 114 :: 32 :: ([] ++ Array.toList (ByteArray.data (itoaB
  g.2)) ++ [32] ++ Array.toList (ByteArray.data (itoaB g.4)))) <= 100 /\ List.length (L (bs g.6)) <= 4000))))))) /\ ((Value.int IntKind.i64 g.2 = Value.int IntKind.i64 g.2)
  /\ ((Value.int IntKind.i64 g.4 = Value.int IntKind.i64 g.4) /\ ((Value.int IntKind.i64 g.4 = Value.int IntKind.i64 g.4) /\ ((Value.agg (Array.mk [Value.int IntKind.i64 (6
  : Int), Value.int IntKind.i64 g.2, Value.int IntKind.i64 g.3, Value.int IntKind.i64 g.4, Value.slice (some (Addr.mk 0 0 none)) (List.length g.5) 3, Value.string (bs g.6),
  Value.bool g.7]) = Value.agg (Array.mk [Value.int IntKind.i64 (6 : Int), Value.int IntKind.i64 g.2, Value.int IntKind.i64 g.3, Value.int IntKind.i64 g.4, Value.slice (some
  (Addr.mk 0 0 none)) (List.length g.5) 3, Value.string (bs g.6), Value.bool g.7])) /\ ((Value.agg (Array.mk [Value.int IntKind.i64 (6 : Int), Value.int IntKind.i64 g.2,
  Value.int IntKind.i64 g.3, Value.int IntKind.i64 g.4, Value.slice (some (Addr.mk 0 0 none)) (List.length g.5) 3, Value.string (bs g.6), Value.bool g.7]) = Value.agg
  (Array.mk [Value.int IntKind.i64 (6 : Int), Value.int IntKind.i64 g.2, Value.int IntKind.i64 g.3, Value.int IntKind.i64 g.4, Value.slice (some (Addr.mk 0 0 none))
  (List.length g.5) 3, Value.string (bs g.6), Value.bool g.7])) /\ ((Value.agg (Array.mk [Value.int IntKind.i64 (6 : Int), Value.int IntKind.i64 g.2, Value.int IntKind.i64
  g.3, Value.int IntKind.i64 g.4, Value.slice (some (Addr.mk 0 0 none)) (List.length g.5) 3, Value.string (bs g.6), Value.bool g.7]) = Value.agg (Array.mk [Value.int
  IntKind.i64 (6 : Int), Value.int IntKind.i64 g.2, Value.int IntKind.i64 g.3, Value.int IntKind.i64 g.4, Value.slice (some (Addr.mk 0 0 none)) (List.length g.5) 3,
  Value.string (bs g.6), Value.bool g.7])) /\ ((v = rhZ (Row.mk (List.take (List.length g.5 * 3) (List.drop 0 (gC enR g.5))) true (Ob.cells true)) (ByteArray.mk #[97, 110,
  115, 119, 101, 114, 32] ++ itoaB g.2 ++ ByteArray.mk #[32] ++ itoaB g.4) (bs g.6) g.7) /\ ((Eq (α := List Value) (gC enR g.5) (gC enR g.5)) /\ ((Plain (gC enR g.5)) /\
  True)))))))))) False)) False) False)) := by kernel_rfl
theorem Rf7_vc (g : GS) (v : ByteArray) : mcall EtRg noM 200 11 [.agg ⟨stpC { g with k := 7 }⟩] ⟨mkR (nums 0 [gRo enR g.l]), 1⟩ (retIs 1 (.string v) [gRo enR g.l]) =
  ((((True /\ True) /\ (True /\ (True /\ (I64 g.2 /\ g.2 ≠ (-9223372036854775808 : Int)))))) /\ (br (decide (5 + List.length (Array.toList (ByteArray.data (itoaB g.2))) <=
  9223372036854775807)) (br (decide (List.length (109 :: 111 :: 114 :: 101 :: 32 :: ([] ++ Array.toList (ByteArray.data (itoaB g.2)))) + 1 <= 9223372036854775807)) ((((True
  /\ True) /\ (True /\ (True /\ (I64 g.4 /\ g.4 ≠ (-9223372036854775808 : Int)))))) /\ (br (decide (List.length (109 :: 111 :: 114 :: 101 :: 32 :: ([] ++ Array.toList
  (ByteArray.data (itoaB g.2)) ++ [32])) + List.length (Array.toList (ByteArray.data (itoaB g.4))) <= 9223372036854775807)) (br (g.7) (br (decide (List.length (109 :: 111 ::
  114 :: 101 :: 32 :: ([] ++ Array.toList (ByteArray.data (itoaB g.2)) ++ [32] ++ Array.toList (ByteArray.data (itoaB g.4)))) + 5 <= 9223372036854775807)) (br (decide
  (List.length (109 :: 111 :: 114 :: 101 :: 32 :: ([] ++ Array.toList (ByteArray.data (itoaB g.2)) ++ [32] ++ Array.toList (ByteArray.data (itoaB g.4)) ++ [32, 101, 110,
  100, 32])) + 1 <= 9223372036854775807)) ((((True /\ True) /\ (True /\ (True /\ List.length (L (bs g.6)) <= 4000)))) /\ (br (decide (List.length (109 :: 111 :: 114 :: 101
  :: 32 :: ([] ++ Array.toList (ByteArray.data (itoaB g.2)) ++ [32] ++ Array.toList (ByteArray.data (itoaB g.4)) ++ [32, 101, 110, 100, 32] ++ [61])) + List.length
  (Array.toList (ByteArray.data (wordS (bs g.6)))) <= 9223372036854775807)) ((Value.int IntKind.i64 g.2 = Value.int IntKind.i64 g.2) /\ ((Value.int IntKind.i64 g.4 =
  Value.int IntKind.i64 g.4) /\ ((Value.int IntKind.i64 g.4 = Value.int IntKind.i64 g.4) /\ ((Value.agg (Array.mk [Value.int IntKind.i64 (7 : Int), Value.int IntKind.i64
  g.2, Value.int IntKind.i64 g.3, Value.int IntKind.i64 g.4, Value.slice (some (Addr.mk 0 0 none)) (List.length g.5) 3, Value.string (bs g.6), Value.bool g.7]) = Value.agg
  (Array.mk [Value.int IntKind.i64 (7 : Int), Value.int IntKind.i64 g.2, Value.int IntKind.i64 g.3, Value.int IntKind.i64 g.4, Value.slice (some (Addr.mk 0 0 none))
  (List.length g.5) 3, Value.string (bs g.6), Value.bool g.7])) /\ ((Value.agg (Array.mk [Value.int IntKind.i64 (7 : Int), Value.int IntKind.i64 g.2, Value.int IntKind.i64
  g.3, Value.int IntKind.i64 g.4, Value.slice (some (Addr.mk 0 0 none)) (List.length g.5) 3, Value.string (bs g.6), Value.bool g.7]) = Value.agg (Array.mk [Value.int
  IntKind.i64 (7 : Int), Value.int IntKind.i64 g.2, Value.int IntKind.i64 g.3, Value.int IntKind.i64 g.4, Value.slice (some (Addr.mk 0 0 none)) (List.length g.5) 3,
  Value.string (bs g.6), Value.bool g.7])) /\ ((Value.agg (Array.mk [Value.int IntKind.i64 (7 : Int), Value.int IntKind.i64 g.2, Value.int IntKind.i64 g.3, Value.int
  IntKind.i64 g.4, Value.slice (some (Addr.mk 0 0 none)) (List.length g.5) 3, Value.string (bs g.6), Value.bool g.7]) = Value.agg (Array.mk [Value.int IntKind.i64 (7 : Int),
  Value.int IntKind.i64 g.2, Value.int IntKind.i64 g.3, Value.int IntKind.i64 g.4, Value.slice (some (Addr.mk 0 0 none)) (List.length g.5) 3, Value.string (bs g.6),
  Value.bool g.7])) /\ ((v = ByteArray.mk #[109, 111, 114, 101, 32] ++ itoaB g.2 ++ ByteArray.mk #[32] ++ itoaB g.4 ++ ByteArray.mk #[32, 101, 110, 100, 32] ++ ByteArray.mk
  #[61] ++ wordS (bs g.6)) /\ ((Eq (α := List Value) (gC enR g.5) (gC enR g.5)) /\ ((Plain (gC enR g.5)) /\ True))))))))) False)) False) False) (br (decide (List.length (109
  :: 111 :: 114 :: 101 :: 32 :: ([] ++ Array.toList (ByteArray.data (itoaB g.2)) ++ [32] ++ Array.toList (ByteArray.data (itoaB g.4)))) + 4 <= 9223372036854775807)) (br
  (decide (List.length (109 :: 111 :: 114 :: 101 :: 32 :: ([] ++ Array.toList (ByteArray.data (itoaB g.2)) ++ [32] ++ Array.toList (ByteArray.data (itoaB g.4)) ++ [32, 111,
  110, 32])) + 1 <= 9223372036854775807)) ((((True /\ True) /\ (True /\ (True /\ List.length (L (bs g.6)) <= 4000)))) /\ (br (decide (List.length (109 :: 111 :: 114 :: 101
  :: 32 :: ([] ++ Array.toList (ByteArray.data (itoaB g.2)) ++ [32] ++ Array.toList (ByteArray.data (itoaB g.4)) ++ [32, 111, 110, 32] ++ [61])) + List.length (Array.toList
  (ByteArray.data (wordS (bs g.6)))) <= 9223372036854775807)) ((Value.int IntKind.i64 g.2 = Value.int IntKind.i64 g.2) /\ ((Value.int IntKind.i64 g.4 = Value.int IntKind.i64
  g.4) /\ ((Value.int IntKind.i64 g.4 = Value.int IntKind.i64 g.4) /\ ((Value.agg (Array.mk [Value.int IntKind.i64 (7 : Int), Value.int IntKind.i64 g.2, Value.int
  IntKind.i64 g.3, Value.int IntKind.i64 g.4, Value.slice (some (Addr.mk 0 0 none)) (List.length g.5) 3, Value.string (bs g.6), Value.bool g.7]) = Value.agg (Array.mk
  [Value.int IntKind.i64 (7 : Int), Value.int IntKind.i64 g.2, Value.int IntKind.i64 g.3, Value.int IntKind.i64 g.4, Value.slice (some (Addr.mk 0 0 none)) (List.length g.5)
  3, Value.string (bs g.6), Value.bool g.7])) /\ ((Value.agg (Array.mk [Value.int IntKind.i64 (7 : Int), Value.int IntKind.i64 g.2, Value.int IntKind.i64 g.3, Value.int
  IntKind.i64 g.4, Value.slice (some (Addr.mk 0 0 none)) (List.length g.5) 3, Value.string (bs g.6), Value.bool g.7]) = Value.agg (Array.mk [Value.int IntKind.i64 (7 : Int),
  Value.int IntKind.i64 g.2, Value.int IntKind.i64 g.3, Value.int IntKind.i64 g.4, Value.slice (some (Addr.mk 0 0 none)) (List.length g.5) 3, Value.string (bs g.6),
  Value.bool g.7])) /\ ((Value.agg (Array.mk [Value.int IntKind.i64 (7 : Int), Value.int IntKind.i64 g.2, Value.int IntKind.i64 g.3, Value.int IntKind.i64 g.4, Value.slice
  (some (Addr.mk 0 0 none)) (List.length g.5) 3, Value.string (bs g.6), Value.bool g.7]) = Value.agg (Array.mk [Value.int IntKind.i64 (7 : Int), Value.int IntKind.i64 g.2,
  Value.int IntKind.i64 g.3, Value.int IntKind.i64 g.4, Value.slice (some (Addr.mk 0 0 none)) (List.length g.5) 3, Value.string (bs g.6), Value.bool g.7])) /\ ((v =
  ByteArray.mk #[109, 111, 114, 101, 32] ++ itoaB g.2 ++ ByteArray.mk #[32] ++ itoaB g.4 ++ ByteArray.mk #[32, 111, 110, 32] ++ ByteArray.mk #[61] ++ wordS (bs g.6)) /\ ((Eq
  (α := List Value) (gC enR g.5) (gC enR g.5)) /\ ((Plain (gC enR g.5)) /\ True))))))))) False)) False) False)) False)) False) False)) := by kernel_rfl
theorem Rf8_vc (g : GS) (v : ByteArray) : mcall EtRg noM 200 11 [.agg ⟨stpC { g with k := 8 }⟩] ⟨mkR (nums 0 [gRo enR g.l]), 1⟩ (retIs 1 (.string v) [gRo enR g.l]) =
  ((((True /\ True) /\ (True /\ (True /\ (I64 g.2 /\ g.2 ≠ (-9223372036854775808 : Int)))))) /\ (br (decide (6 + List.length (Array.toList (ByteArray.data (itoaB g.2))) <=
  9223372036854775807)) (br (decide (List.length (98 :: 114 :: 101 :: 97 :: 107 :: 32 :: ([] ++ Array.toList (ByteArray.data (itoaB g.2)))) + 1 <= 9223372036854775807))
  ((((True /\ True) /\ (True /\ (True /\ (I64 g.4 /\ g.4 ≠ (-9223372036854775808 : Int)))))) /\ (br (decide (List.length (98 :: 114 :: 101 :: 97 :: 107 :: 32 :: ([] ++
  Array.toList (ByteArray.data (itoaB g.2)) ++ [32])) + List.length (Array.toList (ByteArray.data (itoaB g.4))) <= 9223372036854775807)) ((Value.int IntKind.i64 g.2 =
  Value.int IntKind.i64 g.2) /\ ((Value.int IntKind.i64 g.4 = Value.int IntKind.i64 g.4) /\ ((Value.int IntKind.i64 g.4 = Value.int IntKind.i64 g.4) /\ ((v = ByteArray.mk
  #[98, 114, 101, 97, 107, 32] ++ itoaB g.2 ++ ByteArray.mk #[32] ++ itoaB g.4) /\ ((Eq (α := List Value) (gC enR g.5) (gC enR g.5)) /\ ((Plain (gC enR g.5)) /\ True))))))
  False)) False) False)) := by kernel_rfl
theorem Rf9_vc (g : GS) (v : ByteArray) : mcall EtRg noM 200 11 [.agg ⟨stpC { g with k := 9 }⟩] ⟨mkR (nums 0 [gRo enR g.l]), 1⟩ (retIs 1 (.string v) [gRo enR g.l]) =
  ((((True /\ True) /\ (True /\ (True /\ (I64 g.2 /\ g.2 ≠ (-9223372036854775808 : Int)))))) /\ (br (decide (4 + List.length (Array.toList (ByteArray.data (itoaB g.2))) <=
  9223372036854775807)) ((Value.int IntKind.i64 (9 : Int) = Value.int IntKind.i64 (9 : Int)) /\ ((Value.int IntKind.i64 (9 : Int) = Value.int IntKind.i64 (9 : Int)) /\
  ((Value.string (ByteArray.mk #[99, 117, 116]) = Value.string (ByteArray.mk #[99, 117, 116])) /\ ((Value.string (ByteArray.mk #[99, 117, 116]) = Value.string (ByteArray.mk
  #[99, 117, 116])) /\ ((Value.int IntKind.i64 g.2 = Value.int IntKind.i64 g.2) /\ ((v = ByteArray.mk #[99, 117, 116] ++ ByteArray.mk #[32] ++ itoaB g.2) /\ ((Eq (α := List
  Value) (gC enR g.5) (gC enR g.5)) /\ ((Plain (gC enR g.5)) /\ True)))))))) False)) := by kernel_rfl
theorem Rf10_vc (g : GS) (v : ByteArray) : mcall EtRg noM 200 11 [.agg ⟨stpC { g with k := 10 }⟩] ⟨mkR (nums 0 [gRo enR g.l]), 1⟩ (retIs 1 (.string v) [gRo enR g.l]) =
  ((((True /\ True) /\ (True /\ (True /\ (I64 g.2 /\ g.2 ≠ (-9223372036854775808 : Int)))))) /\ (br (decide (5 + List.length (Array.toList (ByteArray.data (itoaB g.2))) <=
  9223372036854775807)) (br (decide (List.length (115 :: 101 :: 110 :: 100 :: 32 :: ([] ++ Array.toList (ByteArray.data (itoaB g.2)))) + 1 <= 9223372036854775807)) ((((True
  /\ True) /\ (True /\ (True /\ (I64 g.3 /\ g.3 ≠ (-9223372036854775808 : Int)))))) /\ (br (decide (List.length (115 :: 101 :: 110 :: 100 :: 32 :: ([] ++ Array.toList
  (ByteArray.data (itoaB g.2)) ++ [32])) + List.length (Array.toList (ByteArray.data (itoaB g.3))) <= 9223372036854775807)) ((Value.int IntKind.i64 g.2 = Value.int
  IntKind.i64 g.2) /\ ((Value.int IntKind.i64 g.3 = Value.int IntKind.i64 g.3) /\ ((Value.int IntKind.i64 g.3 = Value.int IntKind.i64 g.3) /\ ((v = ByteArray.mk #[115, 101,
  110, 100, 32] ++ itoaB g.2 ++ ByteArray.mk #[32] ++ itoaB g.3) /\ ((Eq (α := List Value) (gC enR g.5) (gC enR g.5)) /\ ((Plain (gC enR g.5)) /\ True)))))) False)) False)
  False)) := by kernel_rfl
theorem Rf11_vc (g : GS) (v : ByteArray) : mcall EtRg noM 200 11 [.agg ⟨stpC { g with k := 11 }⟩] ⟨mkR (nums 0 [gRo enR g.l]), 1⟩ (retIs 1 (.string v) [gRo enR g.l]) =
  ((((True /\ True) /\ (True /\ (True /\ (I64 g.2 /\ g.2 ≠ (-9223372036854775808 : Int)))))) /\ (br (decide (5 + List.length (Array.toList (ByteArray.data (itoaB g.2))) <=
  9223372036854775807)) (br (decide (List.length (104 :: 101 :: 97 :: 114 :: 32 :: ([] ++ Array.toList (ByteArray.data (itoaB g.2)))) + 1 <= 9223372036854775807)) ((((True
  /\ True) /\ (True /\ (True /\ (I64 g.3 /\ g.3 ≠ (-9223372036854775808 : Int)))))) /\ (br (decide (List.length (104 :: 101 :: 97 :: 114 :: 32 :: ([] ++ Array.toList
  (ByteArray.data (itoaB g.2)) ++ [32])) + List.length (Array.toList (ByteArray.data (itoaB g.3))) <= 9223372036854775807)) ((Value.int IntKind.i64 g.2 = Value.int
  IntKind.i64 g.2) /\ ((Value.int IntKind.i64 g.3 = Value.int IntKind.i64 g.3) /\ ((Value.int IntKind.i64 g.3 = Value.int IntKind.i64 g.3) /\ ((v = ByteArray.mk #[104, 101,
  97, 114, 32] ++ itoaB g.2 ++ ByteArray.mk #[32] ++ itoaB g.3) /\ ((Eq (α := List Value) (gC enR g.5) (gC enR g.5)) /\ ((Plain (gC enR g.5)) /\ True)))))) False)) False)
  False)) := by kernel_rfl
theorem Rf12_vc (g : GS) (v : ByteArray) : mcall EtRg noM 200 11 [.agg ⟨stpC { g with k := 12 }⟩] ⟨mkR (nums 0 [gRo enR g.l]), 1⟩ (retIs 1 (.string v) [gRo enR g.l]) =
  ((((True /\ True) /\ (True /\ (True /\ (I64 g.2 /\ g.2 ≠ (-9223372036854775808 : Int)))))) /\ (br (decide (5 + List.length (Array.toList (ByteArray.data (itoaB g.2))) <=
  9223372036854775807)) (br (decide (List.length (112 :: 97 :: 115 :: 115 :: 32 :: ([] ++ Array.toList (ByteArray.data (itoaB g.2)))) + 1 <= 9223372036854775807)) ((((True
  /\ True) /\ (True /\ (True /\ (I64 g.3 /\ g.3 ≠ (-9223372036854775808 : Int)))))) /\ (br (decide (List.length (112 :: 97 :: 115 :: 115 :: 32 :: ([] ++ Array.toList
  (ByteArray.data (itoaB g.2)) ++ [32])) + List.length (Array.toList (ByteArray.data (itoaB g.3))) <= 9223372036854775807)) ((Value.int IntKind.i64 g.2 = Value.int
  IntKind.i64 g.2) /\ ((Value.int IntKind.i64 g.3 = Value.int IntKind.i64 g.3) /\ ((Value.int IntKind.i64 g.3 = Value.int IntKind.i64 g.3) /\ ((v = ByteArray.mk #[112, 97,
  115, 115, 32] ++ itoaB g.2 ++ ByteArray.mk #[32] ++ itoaB g.3) /\ ((Eq (α := List Value) (gC enR g.5) (gC enR g.5)) /\ ((Plain (gC enR g.5)) /\ True)))))) False)) False)
  False)) := by kernel_rfl
theorem Rf13_vc (g : GS) (v : ByteArray) : mcall EtRg noM 200 11 [.agg ⟨stpC { g with k := 13 }⟩] ⟨mkR (nums 0 [gRo enR g.l]), 1⟩ (retIs 1 (.string v) [gRo enR g.l]) =
  ((((True /\ True) /\ (True /\ (True /\ (I64 g.2 /\ g.2 ≠ (-9223372036854775808 : Int)))))) /\ (br (decide (6 + List.length (Array.toList (ByteArray.data (itoaB g.2))) <=
  9223372036854775807)) (br (decide (List.length (114 :: 101 :: 112 :: 108 :: 121 :: 32 :: ([] ++ Array.toList (ByteArray.data (itoaB g.2)))) + 1 <= 9223372036854775807))
  ((((True /\ True) /\ (True /\ (True /\ (I64 g.3 /\ g.3 ≠ (-9223372036854775808 : Int)))))) /\ (br (decide (List.length (114 :: 101 :: 112 :: 108 :: 121 :: 32 :: ([] ++
  Array.toList (ByteArray.data (itoaB g.2)) ++ [32])) + List.length (Array.toList (ByteArray.data (itoaB g.3))) <= 9223372036854775807)) ((Value.int IntKind.i64 g.2 =
  Value.int IntKind.i64 g.2) /\ ((Value.int IntKind.i64 g.3 = Value.int IntKind.i64 g.3) /\ ((Value.int IntKind.i64 g.3 = Value.int IntKind.i64 g.3) /\ ((v = ByteArray.mk
  #[114, 101, 112, 108, 121, 32] ++ itoaB g.2 ++ ByteArray.mk #[32] ++ itoaB g.3) /\ ((Eq (α := List Value) (gC enR g.5) (gC enR g.5)) /\ ((Plain (gC enR g.5)) /\ True))))))
  False)) False) False)) := by kernel_rfl
theorem Rf14_vc (g : GS) (v : ByteArray) : mcall EtRg noM 200 11 [.agg ⟨stpC { g with k := 14 }⟩] ⟨mkR (nums 0 [gRo enR g.l]), 1⟩ (retIs 1 (.string v) [gRo enR g.l]) =
  ((((True /\ True) /\ (True /\ (True /\ (I64 g.3 /\ g.3 ≠ (-9223372036854775808 : Int)))))) /\ (br (decide (6 + List.length (Array.toList (ByteArray.data (itoaB g.3))) <=
  9223372036854775807)) ((v = ByteArray.mk #[99, 108, 111, 99, 107, 32] ++ itoaB g.3) /\ ((Eq (α := List Value) (gC enR g.5) (gC enR g.5)) /\ ((Plain (gC enR g.5)) /\
  True))) False)) := by kernel_rfl
theorem bs_inj {a b : List UInt8} (h : bs a = bs b) : a = b := congrArg (fun x : ByteArray => x.data.toList) h
theorem gR_inj : ∀ l m : List Rw, gC enR l = gC enR m → l = m
  | [], [], _ => rfl
  | [], b :: m, h => by simp [gC, enR] at h
  | a :: l, [], h => by simp [gC, enR] at h
  | a :: l, b :: m, h => by
    rw [gC_cons, gC_cons] at h
    obtain ⟨n, v, hh⟩ := a
    obtain ⟨n', v', h'⟩ := b
    simp only [enR, List.cons_append, List.nil_append, List.cons.injEq, Value.string.injEq, Value.int.injEq, true_and] at h
    obtain ⟨h1, h2, h3, h4⟩ := h
    rw [bs_inj h1, bs_inj h2, h3, gR_inj l m h4]
theorem rhZ_eq (l : List Rw) (h t : List UInt8) (e : Bool) : rhZ (gRo enR l) (bs h) (bs t) e = bs (rhS l h t e) := by
  have hex : ∃ m : List Rw, (gRo enR l).cells = gC enR m := ⟨l, rfl⟩
  have hm : gC enR l = gC enR (Classical.choose hex) := Classical.choose_spec hex
  unfold rhZ; rw [sealV_eq]
  refine (dif_pos hex).trans ?_
  rw [← gR_inj _ _ hm]; rfl
theorem eRl_ok : EntOk Tryz.prog eRl := entC_ok (by
  intro a rows p v news h hp
  split at h <;> simp only [Option.some.injEq, Prod.mk.injEq, reduceCtorEq] at h
  obtain ⟨rfl, rfl, rfl⟩ := h
  rename_i s k0 a0 b0 c0 n t e r0
  obtain ⟨⟨l, rfl, rfl, ho, hs⟩, hl, hh, ht⟩ := hp
  rw [← eWo_arg s, ← eWo_arg t, rhZ_eq]
  exact Rl_con ⟨k0, a0, b0, c0, l, L t, e⟩ (L s) hh ht hl (fun x hx => (ho x hx).1) (fun x hx => (ho x hx).2) hs)
theorem tRg_ok : ∀ x ∈ tRg, EntOk Tryz.prog x := all_cons eIr_ok (all_cons eWr_ok (all_cons eRl_ok (all_nil)))
def okH (g : GS) : Prop := okG g ∧ g.a ≠ -9223372036854775808 ∧ g.b ≠ -9223372036854775808 ∧ g.c ≠ -9223372036854775808 ∧ ∀ x ∈ g.l, x.h ≠ -9223372036854775808
theorem Rf1_con (g : GS) (h : okH g) : Con Tryz.prog 11 [.agg ⟨stpC { g with k := 1 }⟩] [gRo enR g.l] (.string (bs (li1 g))) [gRo enR g.l] := by
  obtain ⟨⟨ha, hb, hc, ht, hl, hr, hs⟩, na, nb, nc, nr⟩ := h
  refine con_vc (E := EtRg) mixed (calls_envT tRg_ok) (lok_envT _ _) (M := noM) lm_none (Rf1_vc g _) ?_
  have la := itoa_le _ ha
  have lb := itoa_le _ hb
  have lc := itoa_le _ hc
  have lw := word_le g.t
  have qt : (L (bs g.t)).length = g.t.length := rfl
  have qb : ∀ l : List UInt8, (bs l).data.toList.length = l.length := fun _ => rfl
  have pl := rPl g.l
  have rk : IsRk (gRo enR g.l) g.l.length := ⟨g.l, rfl, rfl, fun x hx => ⟨hr x hx, nr x hx⟩, hs⟩
  have eN : ∀ l : List UInt8, (⟨⟨l⟩⟩ : ByteArray) = bs l := fun _ => rfl
  have eZ := rhZ_eq g.l
  have tk3 : List.take (g.l.length * 3) (gC enR g.l) = gC enR g.l := by rw [← gC_len enR_k g.l, List.take_length]
  have tl3 : (gC enR g.l).length = g.l.length * 3 := gC_len enR_k g.l
  have eR : Row.mk (gC enR g.l) true (.cells true) = gRo enR g.l := rfl
  have hl' : g.l.length ≤ 9223372036854775807 := hl
  simp only [ofNat_eq, toNat_cast, Nat.zero_add, Nat.add_zero, Nat.mul_one, List.drop_zero, bCells_len, bCells_drop, bCells_take, bCells_app, bCells_one, bCells_plain, List.length_replicate, List.length_append, List.length_take, List.length_drop, List.take_length, and_true, true_and, and_self, decide_true, List.length_nil, List.length_cons, Nat.sub_zero, dB_mk, dB_ro, List.take_zero, wordS_bs, itoaB_bs, eN, bs_app, qb, tk3, eR, eZ, rhS]
  simp only [li1, tW, eW, nW]
  generalize Lib.itoa g.a = A at *
  generalize Lib.itoa g.b = B at *
  generalize Lib.itoa g.c = C at *
  generalize wordL g.t = W at *
  try simp only [List.length_append, List.length_cons, List.length_nil]
  repeat' first
    | refine br_dec (by omega) ?_
    | refine br_b rfl ?_
    | refine And.intro (by omega) ?_
    | refine And.intro (by assumption) ?_
    | refine And.intro (And.intro (by assumption) (by assumption)) ?_
    | refine And.intro ⟨⟨by omega, pl⟩, rk, by omega, by omega, by omega⟩ ?_
    | refine br_intro (fun he => ?_) (fun he => ?_)
  all_goals exact ⟨congrArg bs (by simp [*]), pl⟩
theorem Rf2_con (g : GS) (h : okH g) : Con Tryz.prog 11 [.agg ⟨stpC { g with k := 2 }⟩] [gRo enR g.l] (.string (bs (li2 g))) [gRo enR g.l] := by
  obtain ⟨⟨ha, hb, hc, ht, hl, hr, hs⟩, na, nb, nc, nr⟩ := h
  refine con_vc (E := EtRg) mixed (calls_envT tRg_ok) (lok_envT _ _) (M := noM) lm_none (Rf2_vc g _) ?_
  have la := itoa_le _ ha
  have lb := itoa_le _ hb
  have lc := itoa_le _ hc
  have lw := word_le g.t
  have qt : (L (bs g.t)).length = g.t.length := rfl
  have qb : ∀ l : List UInt8, (bs l).data.toList.length = l.length := fun _ => rfl
  have pl := rPl g.l
  have rk : IsRk (gRo enR g.l) g.l.length := ⟨g.l, rfl, rfl, fun x hx => ⟨hr x hx, nr x hx⟩, hs⟩
  have eN : ∀ l : List UInt8, (⟨⟨l⟩⟩ : ByteArray) = bs l := fun _ => rfl
  have eZ := rhZ_eq g.l
  have tk3 : List.take (g.l.length * 3) (gC enR g.l) = gC enR g.l := by rw [← gC_len enR_k g.l, List.take_length]
  have tl3 : (gC enR g.l).length = g.l.length * 3 := gC_len enR_k g.l
  have eR : Row.mk (gC enR g.l) true (.cells true) = gRo enR g.l := rfl
  have hl' : g.l.length ≤ 9223372036854775807 := hl
  simp only [ofNat_eq, toNat_cast, Nat.zero_add, Nat.add_zero, Nat.mul_one, List.drop_zero, bCells_len, bCells_drop, bCells_take, bCells_app, bCells_one, bCells_plain, List.length_replicate, List.length_append, List.length_take, List.length_drop, List.take_length, and_true, true_and, and_self, decide_true, List.length_nil, List.length_cons, Nat.sub_zero, dB_mk, dB_ro, List.take_zero, wordS_bs, itoaB_bs, eN, bs_app, qb, tk3, eR, eZ, rhS]
  simp only [li2, lh2, tW, eW, nW]
  generalize Lib.itoa g.a = A at *
  generalize Lib.itoa g.b = B at *
  generalize Lib.itoa g.c = C at *
  generalize wordL g.t = W at *
  try simp only [List.length_append, List.length_cons, List.length_nil]
  repeat' first
    | refine br_dec (by omega) ?_
    | refine br_b rfl ?_
    | refine And.intro (by omega) ?_
    | refine And.intro (by assumption) ?_
    | refine And.intro (And.intro (by assumption) (by assumption)) ?_
    | refine And.intro ⟨⟨by omega, pl⟩, rk, by omega, by omega, by omega⟩ ?_
    | refine br_intro (fun he => ?_) (fun he => ?_)
  all_goals exact ⟨congrArg bs (by simp [*]), pl⟩
theorem Rf3_con (g : GS) (h : okH g) : Con Tryz.prog 11 [.agg ⟨stpC { g with k := 3 }⟩] [gRo enR g.l] (.string (bs (li3 g))) [gRo enR g.l] := by
  obtain ⟨⟨ha, hb, hc, ht, hl, hr, hs⟩, na, nb, nc, nr⟩ := h
  refine con_vc (E := EtRg) mixed (calls_envT tRg_ok) (lok_envT _ _) (M := noM) lm_none (Rf3_vc g _) ?_
  have la := itoa_le _ ha
  have lb := itoa_le _ hb
  have lc := itoa_le _ hc
  have lw := word_le g.t
  have qt : (L (bs g.t)).length = g.t.length := rfl
  have qb : ∀ l : List UInt8, (bs l).data.toList.length = l.length := fun _ => rfl
  have pl := rPl g.l
  have rk : IsRk (gRo enR g.l) g.l.length := ⟨g.l, rfl, rfl, fun x hx => ⟨hr x hx, nr x hx⟩, hs⟩
  have eN : ∀ l : List UInt8, (⟨⟨l⟩⟩ : ByteArray) = bs l := fun _ => rfl
  have eZ := rhZ_eq g.l
  have tk3 : List.take (g.l.length * 3) (gC enR g.l) = gC enR g.l := by rw [← gC_len enR_k g.l, List.take_length]
  have tl3 : (gC enR g.l).length = g.l.length * 3 := gC_len enR_k g.l
  have eR : Row.mk (gC enR g.l) true (.cells true) = gRo enR g.l := rfl
  have hl' : g.l.length ≤ 9223372036854775807 := hl
  simp only [ofNat_eq, toNat_cast, Nat.zero_add, Nat.add_zero, Nat.mul_one, List.drop_zero, bCells_len, bCells_drop, bCells_take, bCells_app, bCells_one, bCells_plain, List.length_replicate, List.length_append, List.length_take, List.length_drop, List.take_length, and_true, true_and, and_self, decide_true, List.length_nil, List.length_cons, Nat.sub_zero, dB_mk, dB_ro, List.take_zero, wordS_bs, itoaB_bs, eN, bs_app, qb, tk3, eR, eZ, rhS]
  simp only [li3, tW, eW, nW]
  generalize Lib.itoa g.a = A at *
  generalize Lib.itoa g.b = B at *
  generalize Lib.itoa g.c = C at *
  generalize wordL g.t = W at *
  try simp only [List.length_append, List.length_cons, List.length_nil]
  repeat' first
    | refine br_dec (by omega) ?_
    | refine br_b rfl ?_
    | refine And.intro (by omega) ?_
    | refine And.intro (by assumption) ?_
    | refine And.intro (And.intro (by assumption) (by assumption)) ?_
    | refine And.intro ⟨⟨by omega, pl⟩, rk, by omega, by omega, by omega⟩ ?_
    | refine br_intro (fun he => ?_) (fun he => ?_)
  all_goals exact ⟨congrArg bs (by simp [*]), pl⟩
theorem Rf4_con (g : GS) (h : okH g) : Con Tryz.prog 11 [.agg ⟨stpC { g with k := 4 }⟩] [gRo enR g.l] (.string (bs (li4 g))) [gRo enR g.l] := by
  obtain ⟨⟨ha, hb, hc, ht, hl, hr, hs⟩, na, nb, nc, nr⟩ := h
  refine con_vc (E := EtRg) mixed (calls_envT tRg_ok) (lok_envT _ _) (M := noM) lm_none (Rf4_vc g _) ?_
  have la := itoa_le _ ha
  have lb := itoa_le _ hb
  have lc := itoa_le _ hc
  have lw := word_le g.t
  have qt : (L (bs g.t)).length = g.t.length := rfl
  have qb : ∀ l : List UInt8, (bs l).data.toList.length = l.length := fun _ => rfl
  have pl := rPl g.l
  have rk : IsRk (gRo enR g.l) g.l.length := ⟨g.l, rfl, rfl, fun x hx => ⟨hr x hx, nr x hx⟩, hs⟩
  have eN : ∀ l : List UInt8, (⟨⟨l⟩⟩ : ByteArray) = bs l := fun _ => rfl
  have eZ := rhZ_eq g.l
  have tk3 : List.take (g.l.length * 3) (gC enR g.l) = gC enR g.l := by rw [← gC_len enR_k g.l, List.take_length]
  have tl3 : (gC enR g.l).length = g.l.length * 3 := gC_len enR_k g.l
  have eR : Row.mk (gC enR g.l) true (.cells true) = gRo enR g.l := rfl
  have hl' : g.l.length ≤ 9223372036854775807 := hl
  simp only [ofNat_eq, toNat_cast, Nat.zero_add, Nat.add_zero, Nat.mul_one, List.drop_zero, bCells_len, bCells_drop, bCells_take, bCells_app, bCells_one, bCells_plain, List.length_replicate, List.length_append, List.length_take, List.length_drop, List.take_length, and_true, true_and, and_self, decide_true, List.length_nil, List.length_cons, Nat.sub_zero, dB_mk, dB_ro, List.take_zero, wordS_bs, itoaB_bs, eN, bs_app, qb, tk3, eR, eZ, rhS]
  simp only [li4, tW, eW, nW]
  generalize Lib.itoa g.a = A at *
  generalize Lib.itoa g.b = B at *
  generalize Lib.itoa g.c = C at *
  generalize wordL g.t = W at *
  try simp only [List.length_append, List.length_cons, List.length_nil]
  repeat' first
    | refine br_dec (by omega) ?_
    | refine br_b rfl ?_
    | refine And.intro (by omega) ?_
    | refine And.intro (by assumption) ?_
    | refine And.intro (And.intro (by assumption) (by assumption)) ?_
    | refine And.intro ⟨⟨by omega, pl⟩, rk, by omega, by omega, by omega⟩ ?_
    | refine br_intro (fun he => ?_) (fun he => ?_)
  all_goals exact ⟨congrArg bs (by simp [*]), pl⟩
theorem Rf5_con (g : GS) (h : okH g) : Con Tryz.prog 11 [.agg ⟨stpC { g with k := 5 }⟩] [gRo enR g.l] (.string (bs (li5 g))) [gRo enR g.l] := by
  obtain ⟨⟨ha, hb, hc, ht, hl, hr, hs⟩, na, nb, nc, nr⟩ := h
  refine con_vc (E := EtRg) mixed (calls_envT tRg_ok) (lok_envT _ _) (M := noM) lm_none (Rf5_vc g _) ?_
  have la := itoa_le _ ha
  have lb := itoa_le _ hb
  have lc := itoa_le _ hc
  have lw := word_le g.t
  have qt : (L (bs g.t)).length = g.t.length := rfl
  have qb : ∀ l : List UInt8, (bs l).data.toList.length = l.length := fun _ => rfl
  have pl := rPl g.l
  have rk : IsRk (gRo enR g.l) g.l.length := ⟨g.l, rfl, rfl, fun x hx => ⟨hr x hx, nr x hx⟩, hs⟩
  have eN : ∀ l : List UInt8, (⟨⟨l⟩⟩ : ByteArray) = bs l := fun _ => rfl
  have eZ := rhZ_eq g.l
  have tk3 : List.take (g.l.length * 3) (gC enR g.l) = gC enR g.l := by rw [← gC_len enR_k g.l, List.take_length]
  have tl3 : (gC enR g.l).length = g.l.length * 3 := gC_len enR_k g.l
  have eR : Row.mk (gC enR g.l) true (.cells true) = gRo enR g.l := rfl
  have hl' : g.l.length ≤ 9223372036854775807 := hl
  simp only [ofNat_eq, toNat_cast, Nat.zero_add, Nat.add_zero, Nat.mul_one, List.drop_zero, bCells_len, bCells_drop, bCells_take, bCells_app, bCells_one, bCells_plain, List.length_replicate, List.length_append, List.length_take, List.length_drop, List.take_length, and_true, true_and, and_self, decide_true, List.length_nil, List.length_cons, Nat.sub_zero, dB_mk, dB_ro, List.take_zero, wordS_bs, itoaB_bs, eN, bs_app, qb, tk3, eR, eZ, rhS]
  simp only [li5, tW, eW, nW]
  generalize Lib.itoa g.a = A at *
  generalize Lib.itoa g.b = B at *
  generalize Lib.itoa g.c = C at *
  generalize wordL g.t = W at *
  try simp only [List.length_append, List.length_cons, List.length_nil]
  repeat' first
    | refine br_dec (by omega) ?_
    | refine br_b rfl ?_
    | refine And.intro (by omega) ?_
    | refine And.intro (by assumption) ?_
    | refine And.intro (And.intro (by assumption) (by assumption)) ?_
    | refine And.intro ⟨⟨by omega, pl⟩, rk, by omega, by omega, by omega⟩ ?_
    | refine br_intro (fun he => ?_) (fun he => ?_)
  all_goals exact ⟨congrArg bs (by simp [*]), pl⟩
theorem Rf6_con (g : GS) (h : okH g) : Con Tryz.prog 11 [.agg ⟨stpC { g with k := 6 }⟩] [gRo enR g.l] (.string (bs (li6 g))) [gRo enR g.l] := by
  obtain ⟨⟨ha, hb, hc, ht, hl, hr, hs⟩, na, nb, nc, nr⟩ := h
  refine con_vc (E := EtRg) mixed (calls_envT tRg_ok) (lok_envT _ _) (M := noM) lm_none (Rf6_vc g _) ?_
  have la := itoa_le _ ha
  have lb := itoa_le _ hb
  have lc := itoa_le _ hc
  have lw := word_le g.t
  have qt : (L (bs g.t)).length = g.t.length := rfl
  have qb : ∀ l : List UInt8, (bs l).data.toList.length = l.length := fun _ => rfl
  have pl := rPl g.l
  have rk : IsRk (gRo enR g.l) g.l.length := ⟨g.l, rfl, rfl, fun x hx => ⟨hr x hx, nr x hx⟩, hs⟩
  have eN : ∀ l : List UInt8, (⟨⟨l⟩⟩ : ByteArray) = bs l := fun _ => rfl
  have eZ := rhZ_eq g.l
  have tk3 : List.take (g.l.length * 3) (gC enR g.l) = gC enR g.l := by rw [← gC_len enR_k g.l, List.take_length]
  have tl3 : (gC enR g.l).length = g.l.length * 3 := gC_len enR_k g.l
  have eR : Row.mk (gC enR g.l) true (.cells true) = gRo enR g.l := rfl
  have hl' : g.l.length ≤ 9223372036854775807 := hl
  simp only [ofNat_eq, toNat_cast, Nat.zero_add, Nat.add_zero, Nat.mul_one, List.drop_zero, bCells_len, bCells_drop, bCells_take, bCells_app, bCells_one, bCells_plain, List.length_replicate, List.length_append, List.length_take, List.length_drop, List.take_length, and_true, true_and, and_self, decide_true, List.length_nil, List.length_cons, Nat.sub_zero, dB_mk, dB_ro, List.take_zero, wordS_bs, itoaB_bs, eN, bs_app, qb, tk3, eR, eZ, rhS]
  simp only [li6, lh6, tW, eW, nW]
  generalize Lib.itoa g.a = A at *
  generalize Lib.itoa g.b = B at *
  generalize Lib.itoa g.c = C at *
  generalize wordL g.t = W at *
  try simp only [List.length_append, List.length_cons, List.length_nil]
  repeat' first
    | refine br_dec (by omega) ?_
    | refine br_b rfl ?_
    | refine And.intro (by omega) ?_
    | refine And.intro (by assumption) ?_
    | refine And.intro (And.intro (by assumption) (by assumption)) ?_
    | refine And.intro ⟨⟨by omega, pl⟩, rk, by omega, by omega, by omega⟩ ?_
    | refine br_intro (fun he => ?_) (fun he => ?_)
  all_goals exact ⟨congrArg bs (by simp [*]), pl⟩
theorem Rf7_con (g : GS) (h : okH g) : Con Tryz.prog 11 [.agg ⟨stpC { g with k := 7 }⟩] [gRo enR g.l] (.string (bs (li7 g))) [gRo enR g.l] := by
  obtain ⟨⟨ha, hb, hc, ht, hl, hr, hs⟩, na, nb, nc, nr⟩ := h
  refine con_vc (E := EtRg) mixed (calls_envT tRg_ok) (lok_envT _ _) (M := noM) lm_none (Rf7_vc g _) ?_
  have la := itoa_le _ ha
  have lb := itoa_le _ hb
  have lc := itoa_le _ hc
  have lw := word_le g.t
  have qt : (L (bs g.t)).length = g.t.length := rfl
  have qb : ∀ l : List UInt8, (bs l).data.toList.length = l.length := fun _ => rfl
  have pl := rPl g.l
  have rk : IsRk (gRo enR g.l) g.l.length := ⟨g.l, rfl, rfl, fun x hx => ⟨hr x hx, nr x hx⟩, hs⟩
  have eN : ∀ l : List UInt8, (⟨⟨l⟩⟩ : ByteArray) = bs l := fun _ => rfl
  have eZ := rhZ_eq g.l
  have tk3 : List.take (g.l.length * 3) (gC enR g.l) = gC enR g.l := by rw [← gC_len enR_k g.l, List.take_length]
  have tl3 : (gC enR g.l).length = g.l.length * 3 := gC_len enR_k g.l
  have eR : Row.mk (gC enR g.l) true (.cells true) = gRo enR g.l := rfl
  have hl' : g.l.length ≤ 9223372036854775807 := hl
  simp only [ofNat_eq, toNat_cast, Nat.zero_add, Nat.add_zero, Nat.mul_one, List.drop_zero, bCells_len, bCells_drop, bCells_take, bCells_app, bCells_one, bCells_plain, List.length_replicate, List.length_append, List.length_take, List.length_drop, List.take_length, and_true, true_and, and_self, decide_true, List.length_nil, List.length_cons, Nat.sub_zero, dB_mk, dB_ro, List.take_zero, wordS_bs, itoaB_bs, eN, bs_app, qb, tk3, eR, eZ, rhS]
  simp only [li7, tW, eW, nW]
  generalize Lib.itoa g.a = A at *
  generalize Lib.itoa g.b = B at *
  generalize Lib.itoa g.c = C at *
  generalize wordL g.t = W at *
  try simp only [List.length_append, List.length_cons, List.length_nil]
  repeat' first
    | refine br_dec (by omega) ?_
    | refine br_b rfl ?_
    | refine And.intro (by omega) ?_
    | refine And.intro (by assumption) ?_
    | refine And.intro (And.intro (by assumption) (by assumption)) ?_
    | refine And.intro ⟨⟨by omega, pl⟩, rk, by omega, by omega, by omega⟩ ?_
    | refine br_intro (fun he => ?_) (fun he => ?_)
  all_goals exact ⟨congrArg bs (by simp [*]), pl⟩
theorem Rf8_con (g : GS) (h : okH g) : Con Tryz.prog 11 [.agg ⟨stpC { g with k := 8 }⟩] [gRo enR g.l] (.string (bs (li8 g))) [gRo enR g.l] := by
  obtain ⟨⟨ha, hb, hc, ht, hl, hr, hs⟩, na, nb, nc, nr⟩ := h
  refine con_vc (E := EtRg) mixed (calls_envT tRg_ok) (lok_envT _ _) (M := noM) lm_none (Rf8_vc g _) ?_
  have la := itoa_le _ ha
  have lb := itoa_le _ hb
  have lc := itoa_le _ hc
  have lw := word_le g.t
  have qt : (L (bs g.t)).length = g.t.length := rfl
  have qb : ∀ l : List UInt8, (bs l).data.toList.length = l.length := fun _ => rfl
  have pl := rPl g.l
  have rk : IsRk (gRo enR g.l) g.l.length := ⟨g.l, rfl, rfl, fun x hx => ⟨hr x hx, nr x hx⟩, hs⟩
  have eN : ∀ l : List UInt8, (⟨⟨l⟩⟩ : ByteArray) = bs l := fun _ => rfl
  have eZ := rhZ_eq g.l
  have tk3 : List.take (g.l.length * 3) (gC enR g.l) = gC enR g.l := by rw [← gC_len enR_k g.l, List.take_length]
  have tl3 : (gC enR g.l).length = g.l.length * 3 := gC_len enR_k g.l
  have eR : Row.mk (gC enR g.l) true (.cells true) = gRo enR g.l := rfl
  have hl' : g.l.length ≤ 9223372036854775807 := hl
  simp only [ofNat_eq, toNat_cast, Nat.zero_add, Nat.add_zero, Nat.mul_one, List.drop_zero, bCells_len, bCells_drop, bCells_take, bCells_app, bCells_one, bCells_plain, List.length_replicate, List.length_append, List.length_take, List.length_drop, List.take_length, and_true, true_and, and_self, decide_true, List.length_nil, List.length_cons, Nat.sub_zero, dB_mk, dB_ro, List.take_zero, wordS_bs, itoaB_bs, eN, bs_app, qb, tk3, eR, eZ, rhS]
  simp only [li8, tW, eW, nW]
  generalize Lib.itoa g.a = A at *
  generalize Lib.itoa g.b = B at *
  generalize Lib.itoa g.c = C at *
  generalize wordL g.t = W at *
  try simp only [List.length_append, List.length_cons, List.length_nil]
  repeat' first
    | refine br_dec (by omega) ?_
    | refine br_b rfl ?_
    | refine And.intro (by omega) ?_
    | refine And.intro (by assumption) ?_
    | refine And.intro (And.intro (by assumption) (by assumption)) ?_
    | refine And.intro ⟨⟨by omega, pl⟩, rk, by omega, by omega, by omega⟩ ?_
    | refine br_intro (fun he => ?_) (fun he => ?_)
  all_goals exact ⟨congrArg bs (by simp [*]), pl⟩
theorem Rf9_con (g : GS) (h : okH g) : Con Tryz.prog 11 [.agg ⟨stpC { g with k := 9 }⟩] [gRo enR g.l] (.string (bs (li9 g))) [gRo enR g.l] := by
  obtain ⟨⟨ha, hb, hc, ht, hl, hr, hs⟩, na, nb, nc, nr⟩ := h
  refine con_vc (E := EtRg) mixed (calls_envT tRg_ok) (lok_envT _ _) (M := noM) lm_none (Rf9_vc g _) ?_
  have la := itoa_le _ ha
  have lb := itoa_le _ hb
  have lc := itoa_le _ hc
  have lw := word_le g.t
  have qt : (L (bs g.t)).length = g.t.length := rfl
  have qb : ∀ l : List UInt8, (bs l).data.toList.length = l.length := fun _ => rfl
  have pl := rPl g.l
  have rk : IsRk (gRo enR g.l) g.l.length := ⟨g.l, rfl, rfl, fun x hx => ⟨hr x hx, nr x hx⟩, hs⟩
  have eN : ∀ l : List UInt8, (⟨⟨l⟩⟩ : ByteArray) = bs l := fun _ => rfl
  have eZ := rhZ_eq g.l
  have tk3 : List.take (g.l.length * 3) (gC enR g.l) = gC enR g.l := by rw [← gC_len enR_k g.l, List.take_length]
  have tl3 : (gC enR g.l).length = g.l.length * 3 := gC_len enR_k g.l
  have eR : Row.mk (gC enR g.l) true (.cells true) = gRo enR g.l := rfl
  have hl' : g.l.length ≤ 9223372036854775807 := hl
  simp only [ofNat_eq, toNat_cast, Nat.zero_add, Nat.add_zero, Nat.mul_one, List.drop_zero, bCells_len, bCells_drop, bCells_take, bCells_app, bCells_one, bCells_plain, List.length_replicate, List.length_append, List.length_take, List.length_drop, List.take_length, and_true, true_and, and_self, decide_true, List.length_nil, List.length_cons, Nat.sub_zero, dB_mk, dB_ro, List.take_zero, wordS_bs, itoaB_bs, eN, bs_app, qb, tk3, eR, eZ, rhS]
  simp only [li9, tW, eW, nW]
  generalize Lib.itoa g.a = A at *
  generalize Lib.itoa g.b = B at *
  generalize Lib.itoa g.c = C at *
  generalize wordL g.t = W at *
  try simp only [List.length_append, List.length_cons, List.length_nil]
  repeat' first
    | refine br_dec (by omega) ?_
    | refine br_b rfl ?_
    | refine And.intro (by omega) ?_
    | refine And.intro (by assumption) ?_
    | refine And.intro (And.intro (by assumption) (by assumption)) ?_
    | refine And.intro ⟨⟨by omega, pl⟩, rk, by omega, by omega, by omega⟩ ?_
    | refine br_intro (fun he => ?_) (fun he => ?_)
  all_goals exact ⟨congrArg bs (by simp [*]), pl⟩
theorem Rf10_con (g : GS) (h : okH g) : Con Tryz.prog 11 [.agg ⟨stpC { g with k := 10 }⟩] [gRo enR g.l] (.string (bs (li10 g))) [gRo enR g.l] := by
  obtain ⟨⟨ha, hb, hc, ht, hl, hr, hs⟩, na, nb, nc, nr⟩ := h
  refine con_vc (E := EtRg) mixed (calls_envT tRg_ok) (lok_envT _ _) (M := noM) lm_none (Rf10_vc g _) ?_
  have la := itoa_le _ ha
  have lb := itoa_le _ hb
  have lc := itoa_le _ hc
  have lw := word_le g.t
  have qt : (L (bs g.t)).length = g.t.length := rfl
  have qb : ∀ l : List UInt8, (bs l).data.toList.length = l.length := fun _ => rfl
  have pl := rPl g.l
  have rk : IsRk (gRo enR g.l) g.l.length := ⟨g.l, rfl, rfl, fun x hx => ⟨hr x hx, nr x hx⟩, hs⟩
  have eN : ∀ l : List UInt8, (⟨⟨l⟩⟩ : ByteArray) = bs l := fun _ => rfl
  have eZ := rhZ_eq g.l
  have tk3 : List.take (g.l.length * 3) (gC enR g.l) = gC enR g.l := by rw [← gC_len enR_k g.l, List.take_length]
  have tl3 : (gC enR g.l).length = g.l.length * 3 := gC_len enR_k g.l
  have eR : Row.mk (gC enR g.l) true (.cells true) = gRo enR g.l := rfl
  have hl' : g.l.length ≤ 9223372036854775807 := hl
  simp only [ofNat_eq, toNat_cast, Nat.zero_add, Nat.add_zero, Nat.mul_one, List.drop_zero, bCells_len, bCells_drop, bCells_take, bCells_app, bCells_one, bCells_plain, List.length_replicate, List.length_append, List.length_take, List.length_drop, List.take_length, and_true, true_and, and_self, decide_true, List.length_nil, List.length_cons, Nat.sub_zero, dB_mk, dB_ro, List.take_zero, wordS_bs, itoaB_bs, eN, bs_app, qb, tk3, eR, eZ, rhS]
  simp only [li10, tW, eW, nW]
  generalize Lib.itoa g.a = A at *
  generalize Lib.itoa g.b = B at *
  generalize Lib.itoa g.c = C at *
  generalize wordL g.t = W at *
  try simp only [List.length_append, List.length_cons, List.length_nil]
  repeat' first
    | refine br_dec (by omega) ?_
    | refine br_b rfl ?_
    | refine And.intro (by omega) ?_
    | refine And.intro (by assumption) ?_
    | refine And.intro (And.intro (by assumption) (by assumption)) ?_
    | refine And.intro ⟨⟨by omega, pl⟩, rk, by omega, by omega, by omega⟩ ?_
    | refine br_intro (fun he => ?_) (fun he => ?_)
  all_goals exact ⟨congrArg bs (by simp [*]), pl⟩
theorem Rf11_con (g : GS) (h : okH g) : Con Tryz.prog 11 [.agg ⟨stpC { g with k := 11 }⟩] [gRo enR g.l] (.string (bs (li11 g))) [gRo enR g.l] := by
  obtain ⟨⟨ha, hb, hc, ht, hl, hr, hs⟩, na, nb, nc, nr⟩ := h
  refine con_vc (E := EtRg) mixed (calls_envT tRg_ok) (lok_envT _ _) (M := noM) lm_none (Rf11_vc g _) ?_
  have la := itoa_le _ ha
  have lb := itoa_le _ hb
  have lc := itoa_le _ hc
  have lw := word_le g.t
  have qt : (L (bs g.t)).length = g.t.length := rfl
  have qb : ∀ l : List UInt8, (bs l).data.toList.length = l.length := fun _ => rfl
  have pl := rPl g.l
  have rk : IsRk (gRo enR g.l) g.l.length := ⟨g.l, rfl, rfl, fun x hx => ⟨hr x hx, nr x hx⟩, hs⟩
  have eN : ∀ l : List UInt8, (⟨⟨l⟩⟩ : ByteArray) = bs l := fun _ => rfl
  have eZ := rhZ_eq g.l
  have tk3 : List.take (g.l.length * 3) (gC enR g.l) = gC enR g.l := by rw [← gC_len enR_k g.l, List.take_length]
  have tl3 : (gC enR g.l).length = g.l.length * 3 := gC_len enR_k g.l
  have eR : Row.mk (gC enR g.l) true (.cells true) = gRo enR g.l := rfl
  have hl' : g.l.length ≤ 9223372036854775807 := hl
  simp only [ofNat_eq, toNat_cast, Nat.zero_add, Nat.add_zero, Nat.mul_one, List.drop_zero, bCells_len, bCells_drop, bCells_take, bCells_app, bCells_one, bCells_plain, List.length_replicate, List.length_append, List.length_take, List.length_drop, List.take_length, and_true, true_and, and_self, decide_true, List.length_nil, List.length_cons, Nat.sub_zero, dB_mk, dB_ro, List.take_zero, wordS_bs, itoaB_bs, eN, bs_app, qb, tk3, eR, eZ, rhS]
  simp only [li11, tW, eW, nW]
  generalize Lib.itoa g.a = A at *
  generalize Lib.itoa g.b = B at *
  generalize Lib.itoa g.c = C at *
  generalize wordL g.t = W at *
  try simp only [List.length_append, List.length_cons, List.length_nil]
  repeat' first
    | refine br_dec (by omega) ?_
    | refine br_b rfl ?_
    | refine And.intro (by omega) ?_
    | refine And.intro (by assumption) ?_
    | refine And.intro (And.intro (by assumption) (by assumption)) ?_
    | refine And.intro ⟨⟨by omega, pl⟩, rk, by omega, by omega, by omega⟩ ?_
    | refine br_intro (fun he => ?_) (fun he => ?_)
  all_goals exact ⟨congrArg bs (by simp [*]), pl⟩
theorem Rf12_con (g : GS) (h : okH g) : Con Tryz.prog 11 [.agg ⟨stpC { g with k := 12 }⟩] [gRo enR g.l] (.string (bs (li12 g))) [gRo enR g.l] := by
  obtain ⟨⟨ha, hb, hc, ht, hl, hr, hs⟩, na, nb, nc, nr⟩ := h
  refine con_vc (E := EtRg) mixed (calls_envT tRg_ok) (lok_envT _ _) (M := noM) lm_none (Rf12_vc g _) ?_
  have la := itoa_le _ ha
  have lb := itoa_le _ hb
  have lc := itoa_le _ hc
  have lw := word_le g.t
  have qt : (L (bs g.t)).length = g.t.length := rfl
  have qb : ∀ l : List UInt8, (bs l).data.toList.length = l.length := fun _ => rfl
  have pl := rPl g.l
  have rk : IsRk (gRo enR g.l) g.l.length := ⟨g.l, rfl, rfl, fun x hx => ⟨hr x hx, nr x hx⟩, hs⟩
  have eN : ∀ l : List UInt8, (⟨⟨l⟩⟩ : ByteArray) = bs l := fun _ => rfl
  have eZ := rhZ_eq g.l
  have tk3 : List.take (g.l.length * 3) (gC enR g.l) = gC enR g.l := by rw [← gC_len enR_k g.l, List.take_length]
  have tl3 : (gC enR g.l).length = g.l.length * 3 := gC_len enR_k g.l
  have eR : Row.mk (gC enR g.l) true (.cells true) = gRo enR g.l := rfl
  have hl' : g.l.length ≤ 9223372036854775807 := hl
  simp only [ofNat_eq, toNat_cast, Nat.zero_add, Nat.add_zero, Nat.mul_one, List.drop_zero, bCells_len, bCells_drop, bCells_take, bCells_app, bCells_one, bCells_plain, List.length_replicate, List.length_append, List.length_take, List.length_drop, List.take_length, and_true, true_and, and_self, decide_true, List.length_nil, List.length_cons, Nat.sub_zero, dB_mk, dB_ro, List.take_zero, wordS_bs, itoaB_bs, eN, bs_app, qb, tk3, eR, eZ, rhS]
  simp only [li12, tW, eW, nW]
  generalize Lib.itoa g.a = A at *
  generalize Lib.itoa g.b = B at *
  generalize Lib.itoa g.c = C at *
  generalize wordL g.t = W at *
  try simp only [List.length_append, List.length_cons, List.length_nil]
  repeat' first
    | refine br_dec (by omega) ?_
    | refine br_b rfl ?_
    | refine And.intro (by omega) ?_
    | refine And.intro (by assumption) ?_
    | refine And.intro (And.intro (by assumption) (by assumption)) ?_
    | refine And.intro ⟨⟨by omega, pl⟩, rk, by omega, by omega, by omega⟩ ?_
    | refine br_intro (fun he => ?_) (fun he => ?_)
  all_goals exact ⟨congrArg bs (by simp [*]), pl⟩
theorem Rf13_con (g : GS) (h : okH g) : Con Tryz.prog 11 [.agg ⟨stpC { g with k := 13 }⟩] [gRo enR g.l] (.string (bs (li13 g))) [gRo enR g.l] := by
  obtain ⟨⟨ha, hb, hc, ht, hl, hr, hs⟩, na, nb, nc, nr⟩ := h
  refine con_vc (E := EtRg) mixed (calls_envT tRg_ok) (lok_envT _ _) (M := noM) lm_none (Rf13_vc g _) ?_
  have la := itoa_le _ ha
  have lb := itoa_le _ hb
  have lc := itoa_le _ hc
  have lw := word_le g.t
  have qt : (L (bs g.t)).length = g.t.length := rfl
  have qb : ∀ l : List UInt8, (bs l).data.toList.length = l.length := fun _ => rfl
  have pl := rPl g.l
  have rk : IsRk (gRo enR g.l) g.l.length := ⟨g.l, rfl, rfl, fun x hx => ⟨hr x hx, nr x hx⟩, hs⟩
  have eN : ∀ l : List UInt8, (⟨⟨l⟩⟩ : ByteArray) = bs l := fun _ => rfl
  have eZ := rhZ_eq g.l
  have tk3 : List.take (g.l.length * 3) (gC enR g.l) = gC enR g.l := by rw [← gC_len enR_k g.l, List.take_length]
  have tl3 : (gC enR g.l).length = g.l.length * 3 := gC_len enR_k g.l
  have eR : Row.mk (gC enR g.l) true (.cells true) = gRo enR g.l := rfl
  have hl' : g.l.length ≤ 9223372036854775807 := hl
  simp only [ofNat_eq, toNat_cast, Nat.zero_add, Nat.add_zero, Nat.mul_one, List.drop_zero, bCells_len, bCells_drop, bCells_take, bCells_app, bCells_one, bCells_plain, List.length_replicate, List.length_append, List.length_take, List.length_drop, List.take_length, and_true, true_and, and_self, decide_true, List.length_nil, List.length_cons, Nat.sub_zero, dB_mk, dB_ro, List.take_zero, wordS_bs, itoaB_bs, eN, bs_app, qb, tk3, eR, eZ, rhS]
  simp only [li13, tW, eW, nW]
  generalize Lib.itoa g.a = A at *
  generalize Lib.itoa g.b = B at *
  generalize Lib.itoa g.c = C at *
  generalize wordL g.t = W at *
  try simp only [List.length_append, List.length_cons, List.length_nil]
  repeat' first
    | refine br_dec (by omega) ?_
    | refine br_b rfl ?_
    | refine And.intro (by omega) ?_
    | refine And.intro (by assumption) ?_
    | refine And.intro (And.intro (by assumption) (by assumption)) ?_
    | refine And.intro ⟨⟨by omega, pl⟩, rk, by omega, by omega, by omega⟩ ?_
    | refine br_intro (fun he => ?_) (fun he => ?_)
  all_goals exact ⟨congrArg bs (by simp [*]), pl⟩
theorem Rf14_con (g : GS) (h : okH g) : Con Tryz.prog 11 [.agg ⟨stpC { g with k := 14 }⟩] [gRo enR g.l] (.string (bs (li14 g))) [gRo enR g.l] := by
  obtain ⟨⟨ha, hb, hc, ht, hl, hr, hs⟩, na, nb, nc, nr⟩ := h
  refine con_vc (E := EtRg) mixed (calls_envT tRg_ok) (lok_envT _ _) (M := noM) lm_none (Rf14_vc g _) ?_
  have la := itoa_le _ ha
  have lb := itoa_le _ hb
  have lc := itoa_le _ hc
  have lw := word_le g.t
  have qt : (L (bs g.t)).length = g.t.length := rfl
  have qb : ∀ l : List UInt8, (bs l).data.toList.length = l.length := fun _ => rfl
  have pl := rPl g.l
  have rk : IsRk (gRo enR g.l) g.l.length := ⟨g.l, rfl, rfl, fun x hx => ⟨hr x hx, nr x hx⟩, hs⟩
  have eN : ∀ l : List UInt8, (⟨⟨l⟩⟩ : ByteArray) = bs l := fun _ => rfl
  have eZ := rhZ_eq g.l
  have tk3 : List.take (g.l.length * 3) (gC enR g.l) = gC enR g.l := by rw [← gC_len enR_k g.l, List.take_length]
  have tl3 : (gC enR g.l).length = g.l.length * 3 := gC_len enR_k g.l
  have eR : Row.mk (gC enR g.l) true (.cells true) = gRo enR g.l := rfl
  have hl' : g.l.length ≤ 9223372036854775807 := hl
  simp only [ofNat_eq, toNat_cast, Nat.zero_add, Nat.add_zero, Nat.mul_one, List.drop_zero, bCells_len, bCells_drop, bCells_take, bCells_app, bCells_one, bCells_plain, List.length_replicate, List.length_append, List.length_take, List.length_drop, List.take_length, and_true, true_and, and_self, decide_true, List.length_nil, List.length_cons, Nat.sub_zero, dB_mk, dB_ro, List.take_zero, wordS_bs, itoaB_bs, eN, bs_app, qb, tk3, eR, eZ, rhS]
  simp only [li14, tW, eW, nW]
  generalize Lib.itoa g.a = A at *
  generalize Lib.itoa g.b = B at *
  generalize Lib.itoa g.c = C at *
  generalize wordL g.t = W at *
  try simp only [List.length_append, List.length_cons, List.length_nil]
  repeat' first
    | refine br_dec (by omega) ?_
    | refine br_b rfl ?_
    | refine And.intro (by omega) ?_
    | refine And.intro (by assumption) ?_
    | refine And.intro (And.intro (by assumption) (by assumption)) ?_
    | refine And.intro ⟨⟨by omega, pl⟩, rk, by omega, by omega, by omega⟩ ?_
    | refine br_intro (fun he => ?_) (fun he => ?_)
  all_goals exact ⟨congrArg bs (by simp [*]), pl⟩
end Go.Proofs.YtnbfhihibgdgpaaGreatDoor.sl
