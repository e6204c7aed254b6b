/- UnpackBounded: whatever comes, the table's size is at most top, rows at most list, behind an error nothing is read. -/
import Derived.Test.YtellbmbklfbbfaaSz9
import Derived.Test.YtellbmbklfbbfaaRows
import Derived.Test.YtellbmbklfbbfaaLupH
import Derived.Test.YtellbmbklfbbfaaLwit
import Derived.Test.YtellbmbklfbbfaaLlawHu7
set_option maxRecDepth 20000
set_option linter.unusedSimpArgs false
set_option linter.unusedVariables false
namespace Go.Proofs.Ytellbmbklfbbfaa.up
open Go Go.Ev Go.Sy Go.RowKit Go.Proofs.Ytellbmbklfbbfaa.gl Go.Proofs.Ytellbmbklfbbfaa.tk Go.Proofs.Ytellbmbklfbbfaa.hf Go.Proofs.Ytellbmbklfbbfaa.s3 Go.Proofs.Ytellbmbklfbbfaa.tb
noncomputable def enB (p : List UInt8) : List Value := [.slice (some ⟨gCode (bCells p), 0, some 0⟩) p.length 1]
noncomputable def eRunsU : EntM := entC 3 fun a r => match a, r with
  | [], [] => some (True, .bool true, [])
  | _, _ => none
noncomputable def eWiU : EntM := entC 18 fun a r => match a, r with
  | [.int .i64 n, .int .i64 lo, .int .i64 hi], [] => some (I64 n ∧ -1000000000000 ≤ lo ∧ hi ≤ 1000000000000 ∧ lo ≤ hi, .int .i64 (Go.Proofs.Ytellbmbklfbbfaa.tk.inside n lo hi), [])
  | _, _ => none
noncomputable def wsZ : List Wr → Nat → Nat := sealV fun l i => wsum (l.take i)
def pUi : List Nat := [0, 1, 0, 1, 1, 1, 1, 1, 0, 0, 1, 0, 0, 1, 0, 1, 1, 1, 1, 1]
def pUo : List Nat := [0, 1, 0, 1, 1, 1, 1, 1]
structure GU where
  l : List (List UInt8)
  m : Int
  n : Int
structure SU where
  i : Nat
  bad : Bool
  t : Tb
structure GI where
  g : GU
  s : SU
  u : Bool
  W : List Wr
  e : Int
  z : Int
  k : Int
noncomputable def slI (g : GI) (j : Nat) : List (Nat × Value) := [(2, slc 0 g.g.l.length), (7, .int .i64 g.g.m), (8, .int .i64 g.g.n), (9, .pointer (some ⟨1, 0, none⟩)), (11, .bool g.s.bad), (12, .int .i64 (g.s.i : Nat)), (14, .slice (some ⟨4, 0, none⟩) g.W.length 3), (15, .int .i64 g.e), (17, .int .i64 g.z), (18, .int .i64 g.k), (19, .int .i64 (wsZ g.W j : Nat)), (20, .int .i64 (j : Nat))]
noncomputable def rlI (g : GI) : List (Nat × Row) := [(0, gRo enB g.g.l), (1, rd1 g.g.m g.g.n g.u 2), (2, rd4 g.s.t.l.length (smZ g.s.t.l g.s.t.l.length : Nat) g.s.t.most 3), (3, gOwn enF (g.s.t.l ++ g.s.t.j)), (4, gOwn enW g.W)]
noncomputable def wsI (g : GI) : List (Gate Unit) := [⟨.exit 2, fun _ => True, fun _ => slI g g.W.length, fun _ => rlI g, 5⟩, ⟨.ret, fun _ => False, fun _ => [(6, .bool false)], fun _ => [(0, gRo enB g.g.l)], 5⟩]
noncomputable def specI : Sy.Spec := specOf 1 5 150 (fun g : GI => (∀ w ∈ g.W, 1 ≤ w.h ∧ w.h ≤ 3) ∧ wsum g.W ≤ 1000000) (fun g => slI g 0) rlI wsI
noncomputable def mI := mOf [(5, pUi, specI)]
noncomputable def slU (g : GU) (s : SU) : List (Nat × Value) := [(2, slc 0 g.l.length), (7, .int .i64 g.m), (8, .int .i64 g.n), (9, .pointer (some ⟨1, 0, none⟩)), (11, .bool s.bad), (12, .int .i64 (s.i : Nat))]
noncomputable def rlU (g : GU) (s : SU) : List (Nat × Row) := [(0, gRo enB g.l), (1, rd1 g.m g.n s.bad 2), (2, rd4 s.t.l.length (smZ s.t.l s.t.l.length : Nat) s.t.most 3), (3, gOwn enF (s.t.l ++ s.t.j))]
noncomputable def wsU (g : GU) : List (Gate Unit) := [⟨.exit 0, fun _ => True, fun _ => [], fun _ => [(0, gRo enB g.l)], 4⟩, ⟨.ret, fun _ => False, fun _ => [(6, .bool false)], fun _ => [(0, gRo enB g.l)], 4⟩]
noncomputable def specU : Sy.Spec := specOf 1 4 150 (fun g : GU => (0 ≤ g.m ∧ g.m ≤ 65536) ∧ 0 ≤ g.n ∧ g.n ≤ 5000) (fun g => slU g ⟨0, false, ⟨[], [], g.m⟩⟩) (fun g => rlU g ⟨0, false, ⟨[], [], g.m⟩⟩) wsU
noncomputable def mU := mOf [(5, pUo, specU)]
noncomputable def tU : List EntM := [eUb, eRunsU, eWiU]
noncomputable abbrev EtU : Env := envT Try.prog tU
theorem I_round (g : GI) (j : Nat) (Inv : Nat → Prop) (m : Nat → Nat) : mev EtU noM 60 5 (0 :: pUi) false (codeOf Try.prog 5 (0 :: pUi)) ⟨mkOv (slI g j), 150, []⟩ none ⟨mkR (rlI g), 5⟩ (roundK 1 5 150 Inv m (slI g) (fun _ => rlI g) (wsI g) j) =
  (br (decide ((↑j : Int) < Int.ofNat (List.length g.4))) (br (decide ((0 : Int) <= (↑j : Int) /\ (↑j : Int) < (↑(List.length g.4) : Int))) ((Eq (α := Option Value) ((gC enW
  g.4)[0 + Int.toNat (↑j : Int) * 3 + 0 + 0]?) (some (Value.string (cellS (gC enW g.4) (0 + Int.toNat (↑j : Int) * 3 + 0 + 0))))) /\ (br (decide ((0 : Int) <= (↑j : Int) /\
  (↑j : Int) < (↑(List.length g.4) : Int))) ((Eq (α := Option Value) ((gC enW g.4)[0 + Int.toNat (↑j : Int) * 3 + 0 + 1]?) (some (Value.string (cellS (gC enW g.4) (0 +
  Int.toNat (↑j : Int) * 3 + 0 + 1))))) /\ ((Eq (α := Option Value) ((gC enW g.4)[0 + Int.toNat (↑j : Int) * 3 + 0 + 0]?) (some (Value.string (cellS (gC enW g.4) (0 +
  Int.toNat (↑j : Int) * 3 + 0 + 0))))) /\ ((Value.string (cellS (gC enW g.4) (0 + Int.toNat (↑j : Int) * 3 + 0 + 0)) = Value.string (cellS (gC enW g.4) (0 + Int.toNat (↑j :
  Int) * 3 + 0 + 0))) /\ ((Eq (α := Option Value) ((gC enW g.4)[0 + Int.toNat (↑j : Int) * 3 + 0 + 1]?) (some (Value.string (cellS (gC enW g.4) (0 + Int.toNat (↑j : Int) * 3
  + 0 + 1))))) /\ ((Value.string (cellS (gC enW g.4) (0 + Int.toNat (↑j : Int) * 3 + 0 + 1)) = Value.string (cellS (gC enW g.4) (0 + Int.toNat (↑j : Int) * 3 + 0 + 1))) /\
  (br (decide ((0 : Int) <= (↑j : Int) /\ (↑j : Int) < (↑(List.length g.4) : Int))) ((Eq (α := Option Value) ((gC enW g.4)[0 + Int.toNat (↑j : Int) * 3 + 2]?) (some
  (Value.int IntKind.i64 (cellI (gC enW g.4) (0 + Int.toNat (↑j : Int) * 3 + 2))))) /\ (br (decide (cellI (gC enW g.4) (0 + Int.toNat (↑j : Int) * 3 + 2) < (1 : Int))) (∃ y
  : Unit, ((False) /\ ((false = false) /\ ((Eq (α := List Value) (gC enB g.1.1) (gC enB g.1.1)) /\ ((Plain (gC enB g.1.1)) /\ True))))) (br (decide ((0 : Int) <= (↑j : Int)
  /\ (↑j : Int) < (↑(List.length g.4) : Int))) ((Eq (α := Option Value) ((gC enW g.4)[0 + Int.toNat (↑j : Int) * 3 + 2]?) (some (Value.int IntKind.i64 (cellI (gC enW g.4) (0
  + Int.toNat (↑j : Int) * 3 + 2))))) /\ (br (decide (cellI (gC enW g.4) (0 + Int.toNat (↑j : Int) * 3 + 2) > (3 : Int))) (∃ y : Unit, ((False) /\ ((false = false) /\ ((Eq
  (α := List Value) (gC enB g.1.1) (gC enB g.1.1)) /\ ((Plain (gC enB g.1.1)) /\ True))))) (∃ j2 : Nat, ((Inv j2) /\ ((m j2 < m j) /\ ((0 = 0) /\ ((List.length g.1.1 =
  List.length g.1.1) /\ ((g.1.2 = g.1.2) /\ ((g.1.3 = g.1.3) /\ ((0 = 0) /\ ((g.2.2 = g.2.2) /\ (((↑g.2.1 : Int) = (↑g.2.1 : Int)) /\ ((0 = 0) /\ ((List.length g.4 =
  List.length g.4) /\ ((g.5 = g.5) /\ ((g.6 = g.6) /\ ((g.7 = g.7) /\ (((↑(wsZ g.4 j2) : Int) = IntKind.wrap IntKind.i64 (IntKind.wrap IntKind.i64 (IntKind.wrap IntKind.i64
  ((↑(wsZ g.4 j) : Int) + Int.ofNat (List.length (Array.toList (ByteArray.data (cellS (gC enW g.4) (0 + Int.toNat (↑j : Int) * 3 + 0 + 0)))))) + Int.ofNat (List.length
  (Array.toList (ByteArray.data (cellS (gC enW g.4) (0 + Int.toNat (↑j : Int) * 3 + 0 + 1)))))) + (32 : Int))) /\ (((↑j2 : Int) = IntKind.wrap IntKind.i64 ((↑j : Int) + (1 :
  Int))) /\ ((Eq (α := List Value) (gC enB g.1.1) (gC enB g.1.1)) /\ ((Plain (gC enB g.1.1)) /\ ((0 = 0) /\ ((g.1.2 = g.1.2) /\ ((g.1.3 = g.1.3) /\ ((g.3 = g.3) /\ ((0 = 0)
  /\ ((List.length g.2.3.1 = List.length g.2.3.1) /\ (((↑(smZ g.2.3.1 (List.length g.2.3.1)) : Int) = (↑(smZ g.2.3.1 (List.length g.2.3.1)) : Int)) /\ ((g.2.3.3 = g.2.3.3)
  /\ ((Eq (α := List Value) (gC enF (g.2.3.1 ++ g.2.3.2)) (gC enF (g.2.3.1 ++ g.2.3.2))) /\ ((Plain (gC enF (g.2.3.1 ++ g.2.3.2))) /\ ((Eq (α := List Value) (gC enW g.4) (gC
  enW g.4)) /\ ((Plain (gC enW g.4)) /\ True))))))))))))))))))))))))))))))))) False))) False)))))) False)) False) (∃ y : Unit, ((True) /\ ((0 = 0) /\ ((List.length g.1.1 =
  List.length g.1.1) /\ ((g.1.2 = g.1.2) /\ ((g.1.3 = g.1.3) /\ ((0 = 0) /\ ((g.2.2 = g.2.2) /\ (((↑g.2.1 : Int) = (↑g.2.1 : Int)) /\ ((0 = 0) /\ ((List.length g.4 =
  List.length g.4) /\ ((g.5 = g.5) /\ ((g.6 = g.6) /\ ((g.7 = g.7) /\ (((↑(wsZ g.4 (List.length g.4)) : Int) = (↑(wsZ g.4 j) : Int)) /\ (((↑(List.length g.4) : Int) = (↑j :
  Int)) /\ ((Eq (α := List Value) (gC enB g.1.1) (gC enB g.1.1)) /\ ((Plain (gC enB g.1.1)) /\ ((0 = 0) /\ ((g.1.2 = g.1.2) /\ ((g.1.3 = g.1.3) /\ ((g.3 = g.3) /\ ((0 = 0)
  /\ ((List.length g.2.3.1 = List.length g.2.3.1) /\ (((↑(smZ g.2.3.1 (List.length g.2.3.1)) : Int) = (↑(smZ g.2.3.1 (List.length g.2.3.1)) : Int)) /\ ((g.2.3.3 = g.2.3.3)
  /\ ((Eq (α := List Value) (gC enF (g.2.3.1 ++ g.2.3.2)) (gC enF (g.2.3.1 ++ g.2.3.2))) /\ ((Plain (gC enF (g.2.3.1 ++ g.2.3.2))) /\ ((Eq (α := List Value) (gC enW g.4) (gC
  enW g.4)) /\ ((Plain (gC enW g.4)) /\ True))))))))))))))))))))))))))))))) := by kernel_rfl
theorem U_round (g : GU) (s : SU) (Inv : SU → Prop) (m : SU → Nat) : mev EtU mI 60 5 (0 :: pUo) false (codeOf Try.prog 5 (0 :: pUo)) ⟨mkOv (slU g s), 150, []⟩ none ⟨mkR (rlU g s), 4⟩ (roundK 1 4 150 Inv m (slU g) (rlU g) (wsU g) s) =
  (br (decide ((↑s.1 : Int) < Int.ofNat (List.length g.1))) (br (decide ((↑s.1 : Int) < (12 : Int))) (br (decide ((0 : Int) <= (↑s.1 : Int) /\ (↑s.1 : Int) < (↑(List.length
  g.1) : Int))) ((Eq (α := Option Value) ((gC enB g.1)[0 + Int.toNat (↑s.1 : Int) * 1]?) (some (Value.slice (some (Addr.mk (cellZ (gC enB g.1) (0 + Int.toNat (↑s.1 : Int) *
  1)) (cellO (gC enB g.1) (0 + Int.toNat (↑s.1 : Int) * 1)) (some 0))) (cellN (gC enB g.1) (0 + Int.toNat (↑s.1 : Int) * 1)) 1))) /\ (br (decide (Int.ofNat (cellN (gC enB
  g.1) (0 + Int.toNat (↑s.1 : Int) * 1)) > (400 : Int))) (br (decide ((0 : Int) <= (↑0 : Int) /\ (↑0 : Int) <= (400 : Int) /\ (400 : Int) <= (↑(cellN (gC enB g.1) (0 +
  Int.toNat (↑s.1 : Int) * 1)) : Int))) ((((True /\ (cellO (gC enB g.1) (0 + Int.toNat (↑s.1 : Int) * 1) + 0 + 400 <= List.length (gCells (cellZ (gC enB g.1) (0 + Int.toNat
  (↑s.1 : Int) * 1))) /\ True)) /\ (((True /\ (True /\ (True /\ (True /\ True)))) /\ (True /\ ((True /\ (True /\ (True /\ True))) /\ (Plain (gC enF (s.3.1 ++ s.3.2)) /\
  True)))) /\ ((Plain (ubW (Row.mk (List.take 400 (List.drop (cellO (gC enB g.1) (0 + Int.toNat (↑s.1 : Int) * 1) + 0) (gCells (cellZ (gC enB g.1) (0 + Int.toNat (↑s.1 :
  Int) * 1))))) true (Ob.cells true)) g.2 g.3 s.2 (Row.mk (gC enF (s.3.1 ++ s.3.2)) false (Ob.cells true)) (List.length s.3.1) s.3.3) /\ (Plain (ubF (Row.mk (List.take 400
  (List.drop (cellO (gC enB g.1) (0 + Int.toNat (↑s.1 : Int) * 1) + 0) (gCells (cellZ (gC enB g.1) (0 + Int.toNat (↑s.1 : Int) * 1))))) true (Ob.cells true)) g.2 g.3 s.2
  (Row.mk (gC enF (s.3.1 ++ s.3.2)) false (Ob.cells true)) (List.length s.3.1) s.3.3) /\ True)) /\ (IsB1 (Row.mk (List.take 400 (List.drop (cellO (gC enB g.1) (0 + Int.toNat
  (↑s.1 : Int) * 1) + 0) (gCells (cellZ (gC enB g.1) (0 + Int.toNat (↑s.1 : Int) * 1))))) true (Ob.cells true)) 400 /\ (IsTs (Row.mk (gC enF (s.3.1 ++ s.3.2)) false
  (Ob.cells true)) (List.length s.3.1) (↑(smZ s.3.1 (List.length s.3.1)) : Int) s.3.3 /\ TopP g.2 g.3 s.3.3)))))) /\ ((Value.pointer (some (Addr.mk 2 0 none)) =
  Value.pointer (some (Addr.mk 2 0 none))) /\ ((Value.pointer (some (Addr.mk 2 0 none)) = Value.pointer (some (Addr.mk 2 0 none))) /\ ((Value.pointer (some (Addr.mk 2 0
  none)) = Value.pointer (some (Addr.mk 2 0 none))) /\ ((Value.pointer (some (Addr.mk 2 0 none)) = Value.pointer (some (Addr.mk 2 0 none))) /\ ((Value.pointer (some (Addr.mk
  2 0 none)) = Value.pointer (some (Addr.mk 2 0 none))) /\ ((Value.pointer (some (Addr.mk 2 0 none)) = Value.pointer (some (Addr.mk 2 0 none))) /\ (∃ g2 : GI, (((∀ (w : Wr),
  w ∈ GI.W g2 → (1 : Int) <= Wr.h w /\ Wr.h w <= (3 : Int)) /\ wsum g2.4 <= 1000000) /\ ((0 = 0) /\ ((List.length g2.1.1 = List.length g.1) /\ ((g2.1.2 = g.2) /\ ((g2.1.3 =
  g.3) /\ ((0 = 0) /\ ((g2.2.2 = s.2) /\ (((↑g2.2.1 : Int) = (↑s.1 : Int)) /\ ((0 = 0) /\ ((List.length g2.4 = ubN (Row.mk (List.take 400 (List.drop (cellO (gC enB g.1) (0 +
  Int.toNat (↑s.1 : Int) * 1) + 0) (gCells (cellZ (gC enB g.1) (0 + Int.toNat (↑s.1 : Int) * 1))))) true (Ob.cells true)) g.2 g.3 s.2 (Row.mk (gC enF (s.3.1 ++ s.3.2)) false
  (Ob.cells true)) (List.length s.3.1) s.3.3) /\ ((g2.5 = ubE (Row.mk (List.take 400 (List.drop (cellO (gC enB g.1) (0 + Int.toNat (↑s.1 : Int) * 1) + 0) (gCells (cellZ (gC
  enB g.1) (0 + Int.toNat (↑s.1 : Int) * 1))))) true (Ob.cells true)) g.2 g.3 s.2 (Row.mk (gC enF (s.3.1 ++ s.3.2)) false (Ob.cells true)) (List.length s.3.1) s.3.3) /\
  ((g2.6 = ubS (Row.mk (List.take 400 (List.drop (cellO (gC enB g.1) (0 + Int.toNat (↑s.1 : Int) * 1) + 0) (gCells (cellZ (gC enB g.1) (0 + Int.toNat (↑s.1 : Int) * 1)))))
  true (Ob.cells true)) g.2 g.3 s.2 (Row.mk (gC enF (s.3.1 ++ s.3.2)) false (Ob.cells true)) (List.length s.3.1) s.3.3) /\ ((g2.7 = ubM (Row.mk (List.take 400 (List.drop
  (cellO (gC enB g.1) (0 + Int.toNat (↑s.1 : Int) * 1) + 0) (gCells (cellZ (gC enB g.1) (0 + Int.toNat (↑s.1 : Int) * 1))))) true (Ob.cells true)) g.2 g.3 s.2 (Row.mk (gC
  enF (s.3.1 ++ s.3.2)) false (Ob.cells true)) (List.length s.3.1) s.3.3) /\ (((↑(wsZ g2.4 0) : Int) = (0 : Int)) /\ (((0 : Int) = (0 : Int)) /\ ((Eq (α := List Value) (gC
  enB g2.1.1) (gC enB g.1)) /\ ((Plain (gC enB g2.1.1)) /\ ((0 = 0) /\ ((g2.1.2 = g.2) /\ ((g2.1.3 = g.3) /\ ((g2.3 = ubB (Row.mk (List.take 400 (List.drop (cellO (gC enB
  g.1) (0 + Int.toNat (↑s.1 : Int) * 1) + 0) (gCells (cellZ (gC enB g.1) (0 + Int.toNat (↑s.1 : Int) * 1))))) true (Ob.cells true)) g.2 g.3 s.2 (Row.mk (gC enF (s.3.1 ++
  s.3.2)) false (Ob.cells true)) (List.length s.3.1) s.3.3) /\ ((0 = 0) /\ ((List.length g2.2.3.1 = ubK (Row.mk (List.take 400 (List.drop (cellO (gC enB g.1) (0 + Int.toNat
  (↑s.1 : Int) * 1) + 0) (gCells (cellZ (gC enB g.1) (0 + Int.toNat (↑s.1 : Int) * 1))))) true (Ob.cells true)) g.2 g.3 s.2 (Row.mk (gC enF (s.3.1 ++ s.3.2)) false (Ob.cells
  true)) (List.length s.3.1) s.3.3) /\ (((↑(smZ g2.2.3.1 (List.length g2.2.3.1)) : Int) = ubS (Row.mk (List.take 400 (List.drop (cellO (gC enB g.1) (0 + Int.toNat (↑s.1 :
  Int) * 1) + 0) (gCells (cellZ (gC enB g.1) (0 + Int.toNat (↑s.1 : Int) * 1))))) true (Ob.cells true)) g.2 g.3 s.2 (Row.mk (gC enF (s.3.1 ++ s.3.2)) false (Ob.cells true))
  (List.length s.3.1) s.3.3) /\ ((g2.2.3.3 = ubM (Row.mk (List.take 400 (List.drop (cellO (gC enB g.1) (0 + Int.toNat (↑s.1 : Int) * 1) + 0) (gCells (cellZ (gC enB g.1) (0 +
  Int.toNat (↑s.1 : Int) * 1))))) true (Ob.cells true)) g.2 g.3 s.2 (Row.mk (gC enF (s.3.1 ++ s.3.2)) false (Ob.cells true)) (List.length s.3.1) s.3.3) /\ ((Eq (α := List
  Value) (gC enF (g2.2.3.1 ++ g2.2.3.2)) (ubF (Row.mk (List.take 400 (List.drop (cellO (gC enB g.1) (0 + Int.toNat (↑s.1 : Int) * 1) + 0) (gCells (cellZ (gC enB g.1) (0 +
  Int.toNat (↑s.1 : Int) * 1))))) true (Ob.cells true)) g.2 g.3 s.2 (Row.mk (gC enF (s.3.1 ++ s.3.2)) false (Ob.cells true)) (List.length s.3.1) s.3.3)) /\ ((Plain (gC enF
  (g2.2.3.1 ++ g2.2.3.2))) /\ ((Eq (α := List Value) (gC enW g2.4) (ubW (Row.mk (List.take 400 (List.drop (cellO (gC enB g.1) (0 + Int.toNat (↑s.1 : Int) * 1) + 0) (gCells
  (cellZ (gC enB g.1) (0 + Int.toNat (↑s.1 : Int) * 1))))) true (Ob.cells true)) g.2 g.3 s.2 (Row.mk (gC enF (s.3.1 ++ s.3.2)) false (Ob.cells true)) (List.length s.3.1)
  s.3.3)) /\ ((Plain (gC enW g2.4)) /\ (∀ (side : Bool), (br (side) (∀ (y : Unit), ((True) → (br (decide (g2.6 > g2.7)) (∃ y2 : Unit, ((False) /\ ((false = false) /\ ((Eq (α
  := List Value) (gC enB g.1) (gC enB g2.1.1)) /\ ((Plain (gC enB g.1)) /\ True))))) (br (decide (g2.7 > g2.1.2)) (∃ y2 : Unit, ((False) /\ ((false = false) /\ ((Eq (α :=
  List Value) (gC enB g.1) (gC enB g2.1.1)) /\ ((Plain (gC enB g.1)) /\ True))))) (br (decide ((↑(wsZ g2.4 (List.length g2.4)) : Int) > g2.1.3)) (∃ y2 : Unit, ((False) /\
  ((false = false) /\ ((Eq (α := List Value) (gC enB g.1) (gC enB g2.1.1)) /\ ((Plain (gC enB g.1)) /\ True))))) (br (g2.2.2) (br (g2.5 != (1 : Int)) (∃ y2 : Unit, ((False)
  /\ ((false = false) /\ ((Eq (α := List Value) (gC enB g.1) (gC enB g2.1.1)) /\ ((Plain (gC enB g.1)) /\ True))))) (br (decide (Int.ofNat (List.length g2.4) > (0 : Int)))
  (∃ y2 : Unit, ((False) /\ ((false = false) /\ ((Eq (α := List Value) (gC enB g.1) (gC enB g2.1.1)) /\ ((Plain (gC enB g.1)) /\ True))))) (br (g2.5 != (0 : Int)) (br
  (decide (Int.ofNat (List.length g2.4) > (0 : Int))) (∃ y2 : Unit, ((False) /\ ((false = false) /\ ((Eq (α := List Value) (gC enB g.1) (gC enB g2.1.1)) /\ ((Plain (gC enB
  g.1)) /\ True))))) (br (g2.2.2) (br (!g2.3 == true) (∃ y2 : Unit, ((False) /\ ((false = false) /\ ((Eq (α := List Value) (gC enB g.1) (gC enB g2.1.1)) /\ ((Plain (gC enB
  g.1)) /\ True))))) (∃ j : SU, ((Inv j) /\ ((m j < m s) /\ ((0 = 0) /\ ((List.length g.1 = List.length g2.1.1) /\ ((g.2 = g2.1.2) /\ ((g.3 = g2.1.3) /\ ((0 = 0) /\ ((j.2 =
  true) /\ (((↑j.1 : Int) = IntKind.wrap IntKind.i64 ((↑g2.2.1 : Int) + (1 : Int))) /\ ((Eq (α := List Value) (gC enB g.1) (gC enB g2.1.1)) /\ ((Plain (gC enB g.1)) /\ ((0 =
  0) /\ ((g.2 = g2.1.2) /\ ((g.3 = g2.1.3) /\ ((j.2 = g2.3) /\ ((0 = 0) /\ ((List.length j.3.1 = List.length g2.2.3.1) /\ (((↑(smZ j.3.1 (List.length j.3.1)) : Int) = (↑(smZ
  g2.2.3.1 (List.length g2.2.3.1)) : Int)) /\ ((j.3.3 = g2.2.3.3) /\ ((Eq (α := List Value) (gC enF (j.3.1 ++ j.3.2)) (gC enF (g2.2.3.1 ++ g2.2.3.2))) /\ ((Plain (gC enF
  (j.3.1 ++ j.3.2))) /\ True))))))))))))))))))))))) (br (!g2.3 == (g2.5 != (0 : Int))) (∃ y2 : Unit, ((False) /\ ((false = false) /\ ((Eq (α := List Value) (gC enB g.1) (gC
  enB g2.1.1)) /\ ((Plain (gC enB g.1)) /\ True))))) (∃ j : SU, ((Inv j) /\ ((m j < m s) /\ ((0 = 0) /\ ((List.length g.1 = List.length g2.1.1) /\ ((g.2 = g2.1.2) /\ ((g.3 =
  g2.1.3) /\ ((0 = 0) /\ ((j.2 = (g2.5 != (0 : Int))) /\ (((↑j.1 : Int) = IntKind.wrap IntKind.i64 ((↑g2.2.1 : Int) + (1 : Int))) /\ ((Eq (α := List Value) (gC enB g.1) (gC
  enB g2.1.1)) /\ ((Plain (gC enB g.1)) /\ ((0 = 0) /\ ((g.2 = g2.1.2) /\ ((g.3 = g2.1.3) /\ ((j.2 = g2.3) /\ ((0 = 0) /\ ((List.length j.3.1 = List.length g2.2.3.1) /\
  (((↑(smZ j.3.1 (List.length j.3.1)) : Int) = (↑(smZ g2.2.3.1 (List.length g2.2.3.1)) : Int)) /\ ((j.3.3 = g2.2.3.3) /\ ((Eq (α := List Value) (gC enF (j.3.1 ++ j.3.2)) (gC
  enF (g2.2.3.1 ++ g2.2.3.2))) /\ ((Plain (gC enF (j.3.1 ++ j.3.2))) /\ True))))))))))))))))))))))))) (br (g2.2.2) (br (!g2.3 == true) (∃ y2 : Unit, ((False) /\ ((false =
  false) /\ ((Eq (α := List Value) (gC enB g.1) (gC enB g2.1.1)) /\ ((Plain (gC enB g.1)) /\ True))))) (∃ j : SU, ((Inv j) /\ ((m j < m s) /\ ((0 = 0) /\ ((List.length g.1 =
  List.length g2.1.1) /\ ((g.2 = g2.1.2) /\ ((g.3 = g2.1.3) /\ ((0 = 0) /\ ((j.2 = true) /\ (((↑j.1 : Int) = IntKind.wrap IntKind.i64 ((↑g2.2.1 : Int) + (1 : Int))) /\ ((Eq
  (α := List Value) (gC enB g.1) (gC enB g2.1.1)) /\ ((Plain (gC enB g.1)) /\ ((0 = 0) /\ ((g.2 = g2.1.2) /\ ((g.3 = g2.1.3) /\ ((j.2 = g2.3) /\ ((0 = 0) /\ ((List.length
  j.3.1 = List.length g2.2.3.1) /\ (((↑(smZ j.3.1 (List.length j.3.1)) : Int) = (↑(smZ g2.2.3.1 (List.length g2.2.3.1)) : Int)) /\ ((j.3.3 = g2.2.3.3) /\ ((Eq (α := List
  Value) (gC enF (j.3.1 ++ j.3.2)) (gC enF (g2.2.3.1 ++ g2.2.3.2))) /\ ((Plain (gC enF (j.3.1 ++ j.3.2))) /\ True))))))))))))))))))))))) (br (!g2.3 == (g2.5 != (0 : Int)))
  (∃ y2 : Unit, ((False) /\ ((false = false) /\ ((Eq (α := List Value) (gC enB g.1) (gC enB g2.1.1)) /\ ((Plain (gC enB g.1)) /\ True))))) (∃ j : SU, ((Inv j) /\ ((m j < m
  s) /\ ((0 = 0) /\ ((List.length g.1 = List.length g2.1.1) /\ ((g.2 = g2.1.2) /\ ((g.3 = g2.1.3) /\ ((0 = 0) /\ ((j.2 = (g2.5 != (0 : Int))) /\ (((↑j.1 : Int) =
  IntKind.wrap IntKind.i64 ((↑g2.2.1 : Int) + (1 : Int))) /\ ((Eq (α := List Value) (gC enB g.1) (gC enB g2.1.1)) /\ ((Plain (gC enB g.1)) /\ ((0 = 0) /\ ((g.2 = g2.1.2) /\
  ((g.3 = g2.1.3) /\ ((j.2 = g2.3) /\ ((0 = 0) /\ ((List.length j.3.1 = List.length g2.2.3.1) /\ (((↑(smZ j.3.1 (List.length j.3.1)) : Int) = (↑(smZ g2.2.3.1 (List.length
  g2.2.3.1)) : Int)) /\ ((j.3.3 = g2.2.3.3) /\ ((Eq (α := List Value) (gC enF (j.3.1 ++ j.3.2)) (gC enF (g2.2.3.1 ++ g2.2.3.2))) /\ ((Plain (gC enF (j.3.1 ++ j.3.2))) /\
  True))))))))))))))))))))))))))) (br (g2.5 != (0 : Int)) (br (decide (Int.ofNat (List.length g2.4) > (0 : Int))) (∃ y2 : Unit, ((False) /\ ((false = false) /\ ((Eq (α :=
  List Value) (gC enB g.1) (gC enB g2.1.1)) /\ ((Plain (gC enB g.1)) /\ True))))) (br (g2.2.2) (br (!g2.3 == true) (∃ y2 : Unit, ((False) /\ ((false = false) /\ ((Eq (α :=
  List Value) (gC enB g.1) (gC enB g2.1.1)) /\ ((Plain (gC enB g.1)) /\ True))))) (∃ j : SU, ((Inv j) /\ ((m j < m s) /\ ((0 = 0) /\ ((List.length g.1 = List.length g2.1.1)
  /\ ((g.2 = g2.1.2) /\ ((g.3 = g2.1.3) /\ ((0 = 0) /\ ((j.2 = true) /\ (((↑j.1 : Int) = IntKind.wrap IntKind.i64 ((↑g2.2.1 : Int) + (1 : Int))) /\ ((Eq (α := List Value)
  (gC enB g.1) (gC enB g2.1.1)) /\ ((Plain (gC enB g.1)) /\ ((0 = 0) /\ ((g.2 = g2.1.2) /\ ((g.3 = g2.1.3) /\ ((j.2 = g2.3) /\ ((0 = 0) /\ ((List.length j.3.1 = List.length
  g2.2.3.1) /\ (((↑(smZ j.3.1 (List.length j.3.1)) : Int) = (↑(smZ g2.2.3.1 (List.length g2.2.3.1)) : Int)) /\ ((j.3.3 = g2.2.3.3) /\ ((Eq (α := List Value) (gC enF (j.3.1
  ++ j.3.2)) (gC enF (g2.2.3.1 ++ g2.2.3.2))) /\ ((Plain (gC enF (j.3.1 ++ j.3.2))) /\ True))))))))))))))))))))))) (br (!g2.3 == (g2.5 != (0 : Int))) (∃ y2 : Unit, ((False)
  /\ ((false = false) /\ ((Eq (α := List Value) (gC enB g.1) (gC enB g2.1.1)) /\ ((Plain (gC enB g.1)) /\ True))))) (∃ j : SU, ((Inv j) /\ ((m j < m s) /\ ((0 = 0) /\
  ((List.length g.1 = List.length g2.1.1) /\ ((g.2 = g2.1.2) /\ ((g.3 = g2.1.3) /\ ((0 = 0) /\ ((j.2 = (g2.5 != (0 : Int))) /\ (((↑j.1 : Int) = IntKind.wrap IntKind.i64
  ((↑g2.2.1 : Int) + (1 : Int))) /\ ((Eq (α := List Value) (gC enB g.1) (gC enB g2.1.1)) /\ ((Plain (gC enB g.1)) /\ ((0 = 0) /\ ((g.2 = g2.1.2) /\ ((g.3 = g2.1.3) /\ ((j.2
  = g2.3) /\ ((0 = 0) /\ ((List.length j.3.1 = List.length g2.2.3.1) /\ (((↑(smZ j.3.1 (List.length j.3.1)) : Int) = (↑(smZ g2.2.3.1 (List.length g2.2.3.1)) : Int)) /\
  ((j.3.3 = g2.2.3.3) /\ ((Eq (α := List Value) (gC enF (j.3.1 ++ j.3.2)) (gC enF (g2.2.3.1 ++ g2.2.3.2))) /\ ((Plain (gC enF (j.3.1 ++ j.3.2))) /\
  True))))))))))))))))))))))))) (br (g2.2.2) (br (!g2.3 == true) (∃ y2 : Unit, ((False) /\ ((false = false) /\ ((Eq (α := List Value) (gC enB g.1) (gC enB g2.1.1)) /\
  ((Plain (gC enB g.1)) /\ True))))) (∃ j : SU, ((Inv j) /\ ((m j < m s) /\ ((0 = 0) /\ ((List.length g.1 = List.length g2.1.1) /\ ((g.2 = g2.1.2) /\ ((g.3 = g2.1.3) /\ ((0
  = 0) /\ ((j.2 = true) /\ (((↑j.1 : Int) = IntKind.wrap IntKind.i64 ((↑g2.2.1 : Int) + (1 : Int))) /\ ((Eq (α := List Value) (gC enB g.1) (gC enB g2.1.1)) /\ ((Plain (gC
  enB g.1)) /\ ((0 = 0) /\ ((g.2 = g2.1.2) /\ ((g.3 = g2.1.3) /\ ((j.2 = g2.3) /\ ((0 = 0) /\ ((List.length j.3.1 = List.length g2.2.3.1) /\ (((↑(smZ j.3.1 (List.length
  j.3.1)) : Int) = (↑(smZ g2.2.3.1 (List.length g2.2.3.1)) : Int)) /\ ((j.3.3 = g2.2.3.3) /\ ((Eq (α := List Value) (gC enF (j.3.1 ++ j.3.2)) (gC enF (g2.2.3.1 ++
  g2.2.3.2))) /\ ((Plain (gC enF (j.3.1 ++ j.3.2))) /\ True))))))))))))))))))))))) (br (!g2.3 == (g2.5 != (0 : Int))) (∃ y2 : Unit, ((False) /\ ((false = false) /\ ((Eq (α
  := List Value) (gC enB g.1) (gC enB g2.1.1)) /\ ((Plain (gC enB g.1)) /\ True))))) (∃ j : SU, ((Inv j) /\ ((m j < m s) /\ ((0 = 0) /\ ((List.length g.1 = List.length
  g2.1.1) /\ ((g.2 = g2.1.2) /\ ((g.3 = g2.1.3) /\ ((0 = 0) /\ ((j.2 = (g2.5 != (0 : Int))) /\ (((↑j.1 : Int) = IntKind.wrap IntKind.i64 ((↑g2.2.1 : Int) + (1 : Int))) /\
  ((Eq (α := List Value) (gC enB g.1) (gC enB g2.1.1)) /\ ((Plain (gC enB g.1)) /\ ((0 = 0) /\ ((g.2 = g2.1.2) /\ ((g.3 = g2.1.3) /\ ((j.2 = g2.3) /\ ((0 = 0) /\
  ((List.length j.3.1 = List.length g2.2.3.1) /\ (((↑(smZ j.3.1 (List.length j.3.1)) : Int) = (↑(smZ g2.2.3.1 (List.length g2.2.3.1)) : Int)) /\ ((j.3.3 = g2.2.3.3) /\ ((Eq
  (α := List Value) (gC enF (j.3.1 ++ j.3.2)) (gC enF (g2.2.3.1 ++ g2.2.3.2))) /\ ((Plain (gC enF (j.3.1 ++ j.3.2))) /\ True))))))))))))))))))))))))))))))) (∀ (y : Unit),
  ((False) → (∃ y2 : Unit, ((False) /\ ((false = false) /\ ((Eq (α := List Value) (gC enB g.1) (gC enB g2.1.1)) /\ ((Plain (gC enB g.1)) /\
  True)))))))))))))))))))))))))))))))))))))))))))))) False) ((((True /\ (cellO (gC enB g.1) (0 + Int.toNat (↑s.1 : Int) * 1) + cellN (gC enB g.1) (0 + Int.toNat (↑s.1 : Int)
  * 1) * 1 <= List.length (gCells (cellZ (gC enB g.1) (0 + Int.toNat (↑s.1 : Int) * 1))) /\ True)) /\ (((True /\ (True /\ (True /\ (True /\ True)))) /\ (True /\ ((True /\
  (True /\ (True /\ True))) /\ (Plain (gC enF (s.3.1 ++ s.3.2)) /\ True)))) /\ ((Plain (ubW (Row.mk (List.take (cellN (gC enB g.1) (0 + Int.toNat (↑s.1 : Int) * 1) * 1)
  (List.drop (cellO (gC enB g.1) (0 + Int.toNat (↑s.1 : Int) * 1)) (gCells (cellZ (gC enB g.1) (0 + Int.toNat (↑s.1 : Int) * 1))))) true (Ob.cells true)) g.2 g.3 s.2 (Row.mk
  (gC enF (s.3.1 ++ s.3.2)) false (Ob.cells true)) (List.length s.3.1) s.3.3) /\ (Plain (ubF (Row.mk (List.take (cellN (gC enB g.1) (0 + Int.toNat (↑s.1 : Int) * 1) * 1)
  (List.drop (cellO (gC enB g.1) (0 + Int.toNat (↑s.1 : Int) * 1)) (gCells (cellZ (gC enB g.1) (0 + Int.toNat (↑s.1 : Int) * 1))))) true (Ob.cells true)) g.2 g.3 s.2 (Row.mk
  (gC enF (s.3.1 ++ s.3.2)) false (Ob.cells true)) (List.length s.3.1) s.3.3) /\ True)) /\ (IsB1 (Row.mk (List.take (cellN (gC enB g.1) (0 + Int.toNat (↑s.1 : Int) * 1) * 1)
  (List.drop (cellO (gC enB g.1) (0 + Int.toNat (↑s.1 : Int) * 1)) (gCells (cellZ (gC enB g.1) (0 + Int.toNat (↑s.1 : Int) * 1))))) true (Ob.cells true)) (cellN (gC enB g.1)
  (0 + Int.toNat (↑s.1 : Int) * 1)) /\ (IsTs (Row.mk (gC enF (s.3.1 ++ s.3.2)) false (Ob.cells true)) (List.length s.3.1) (↑(smZ s.3.1 (List.length s.3.1)) : Int) s.3.3 /\
  TopP g.2 g.3 s.3.3)))))) /\ ((Value.pointer (some (Addr.mk 2 0 none)) = Value.pointer (some (Addr.mk 2 0 none))) /\ ((Value.pointer (some (Addr.mk 2 0 none)) =
  Value.pointer (some (Addr.mk 2 0 none))) /\ ((Value.pointer (some (Addr.mk 2 0 none)) = Value.pointer (some (Addr.mk 2 0 none))) /\ ((Value.pointer (some (Addr.mk 2 0
  none)) = Value.pointer (some (Addr.mk 2 0 none))) /\ ((Value.pointer (some (Addr.mk 2 0 none)) = Value.pointer (some (Addr.mk 2 0 none))) /\ ((Value.pointer (some (Addr.mk
  2 0 none)) = Value.pointer (some (Addr.mk 2 0 none))) /\ (∃ g2 : GI, (((∀ (w : Wr), w ∈ GI.W g2 → (1 : Int) <= Wr.h w /\ Wr.h w <= (3 : Int)) /\ wsum g2.4 <= 1000000) /\
  ((0 = 0) /\ ((List.length g2.1.1 = List.length g.1) /\ ((g2.1.2 = g.2) /\ ((g2.1.3 = g.3) /\ ((0 = 0) /\ ((g2.2.2 = s.2) /\ (((↑g2.2.1 : Int) = (↑s.1 : Int)) /\ ((0 = 0)
  /\ ((List.length g2.4 = ubN (Row.mk (List.take (cellN (gC enB g.1) (0 + Int.toNat (↑s.1 : Int) * 1) * 1) (List.drop (cellO (gC enB g.1) (0 + Int.toNat (↑s.1 : Int) * 1))
  (gCells (cellZ (gC enB g.1) (0 + Int.toNat (↑s.1 : Int) * 1))))) true (Ob.cells true)) g.2 g.3 s.2 (Row.mk (gC enF (s.3.1 ++ s.3.2)) false (Ob.cells true)) (List.length
  s.3.1) s.3.3) /\ ((g2.5 = ubE (Row.mk (List.take (cellN (gC enB g.1) (0 + Int.toNat (↑s.1 : Int) * 1) * 1) (List.drop (cellO (gC enB g.1) (0 + Int.toNat (↑s.1 : Int) * 1))
  (gCells (cellZ (gC enB g.1) (0 + Int.toNat (↑s.1 : Int) * 1))))) true (Ob.cells true)) g.2 g.3 s.2 (Row.mk (gC enF (s.3.1 ++ s.3.2)) false (Ob.cells true)) (List.length
  s.3.1) s.3.3) /\ ((g2.6 = ubS (Row.mk (List.take (cellN (gC enB g.1) (0 + Int.toNat (↑s.1 : Int) * 1) * 1) (List.drop (cellO (gC enB g.1) (0 + Int.toNat (↑s.1 : Int) * 1))
  (gCells (cellZ (gC enB g.1) (0 + Int.toNat (↑s.1 : Int) * 1))))) true (Ob.cells true)) g.2 g.3 s.2 (Row.mk (gC enF (s.3.1 ++ s.3.2)) false (Ob.cells true)) (List.length
  s.3.1) s.3.3) /\ ((g2.7 = ubM (Row.mk (List.take (cellN (gC enB g.1) (0 + Int.toNat (↑s.1 : Int) * 1) * 1) (List.drop (cellO (gC enB g.1) (0 + Int.toNat (↑s.1 : Int) * 1))
  (gCells (cellZ (gC enB g.1) (0 + Int.toNat (↑s.1 : Int) * 1))))) true (Ob.cells true)) g.2 g.3 s.2 (Row.mk (gC enF (s.3.1 ++ s.3.2)) false (Ob.cells true)) (List.length
  s.3.1) s.3.3) /\ (((↑(wsZ g2.4 0) : Int) = (0 : Int)) /\ (((0 : Int) = (0 : Int)) /\ ((Eq (α := List Value) (gC enB g2.1.1) (gC enB g.1)) /\ ((Plain (gC enB g2.1.1)) /\
  ((0 = 0) /\ ((g2.1.2 = g.2) /\ ((g2.1.3 = g.3) /\ ((g2.3 = ubB (Row.mk (List.take (cellN (gC enB g.1) (0 + Int.toNat (↑s.1 : Int) * 1) * 1) (List.drop (cellO (gC enB g.1)
  (0 + Int.toNat (↑s.1 : Int) * 1)) (gCells (cellZ (gC enB g.1) (0 + Int.toNat (↑s.1 : Int) * 1))))) true (Ob.cells true)) g.2 g.3 s.2 (Row.mk (gC enF (s.3.1 ++ s.3.2))
  false (Ob.cells true)) (List.length s.3.1) s.3.3) /\ ((0 = 0) /\ ((List.length g2.2.3.1 = ubK (Row.mk (List.take (cellN (gC enB g.1) (0 + Int.toNat (↑s.1 : Int) * 1) * 1)
  (List.drop (cellO (gC enB g.1) (0 + Int.toNat (↑s.1 : Int) * 1)) (gCells (cellZ (gC enB g.1) (0 + Int.toNat (↑s.1 : Int) * 1))))) true (Ob.cells true)) g.2 g.3 s.2 (Row.mk
  (gC enF (s.3.1 ++ s.3.2)) false (Ob.cells true)) (List.length s.3.1) s.3.3) /\ (((↑(smZ g2.2.3.1 (List.length g2.2.3.1)) : Int) = ubS (Row.mk (List.take (cellN (gC enB
  g.1) (0 + Int.toNat (↑s.1 : Int) * 1) * 1) (List.drop (cellO (gC enB g.1) (0 + Int.toNat (↑s.1 : Int) * 1)) (gCells (cellZ (gC enB g.1) (0 + Int.toNat (↑s.1 : Int) *
  1))))) true (Ob.cells true)) g.2 g.3 s.2 (Row.mk (gC enF (s.3.1 ++ s.3.2)) false (Ob.cells true)) (List.length s.3.1) s.3.3) /\ ((g2.2.3.3 = ubM (Row.mk (List.take (cellN
  (gC enB g.1) (0 + Int.toNat (↑s.1 : Int) * 1) * 1) (List.drop (cellO (gC enB g.1) (0 + Int.toNat (↑s.1 : Int) * 1)) (gCells (cellZ (gC enB g.1) (0 + Int.toNat (↑s.1 : Int)
  * 1))))) true (Ob.cells true)) g.2 g.3 s.2 (Row.mk (gC enF (s.3.1 ++ s.3.2)) false (Ob.cells true)) (List.length s.3.1) s.3.3) /\ ((Eq (α := List Value) (gC enF (g2.2.3.1
  ++ g2.2.3.2)) (ubF (Row.mk (List.take (cellN (gC enB g.1) (0 + Int.toNat (↑s.1 : Int) * 1) * 1) (List.drop (cellO (gC enB g.1) (0 + Int.toNat (↑s.1 : Int) * 1)) (gCells
  (cellZ (gC enB g.1) (0 + Int.toNat (↑s.1 : Int) * 1))))) true (Ob.cells true)) g.2 g.3 s.2 (Row.mk (gC enF (s.3.1 ++ s.3.2)) false (Ob.cells true)) (List.length s.3.1)
  s.3.3)) /\ ((Plain (gC enF (g2.2.3.1 ++ g2.2.3.2))) /\ ((Eq (α := List Value) (gC enW g2.4) (ubW (Row.mk (List.take (cellN (gC enB g.1) (0 + Int.toNat (↑s.1 : Int) * 1) *
  1) (List.drop (cellO (gC enB g.1) (0 + Int.toNat (↑s.1 : Int) * 1)) (gCells (cellZ (gC enB g.1) (0 + Int.toNat (↑s.1 : Int) * 1))))) true (Ob.cells true)) g.2 g.3 s.2
  (Row.mk (gC enF (s.3.1 ++ s.3.2)) false (Ob.cells true)) (List.length s.3.1) s.3.3)) /\ ((Plain (gC enW g2.4)) /\ (∀ (side : Bool), (br (side) (∀ (y : Unit), ((True) → (br
  (decide (g2.6 > g2.7)) (∃ y2 : Unit, ((False) /\ ((false = false) /\ ((Eq (α := List Value) (gC enB g.1) (gC enB g2.1.1)) /\ ((Plain (gC enB g.1)) /\ True))))) (br (decide
  (g2.7 > g2.1.2)) (∃ y2 : Unit, ((False) /\ ((false = false) /\ ((Eq (α := List Value) (gC enB g.1) (gC enB g2.1.1)) /\ ((Plain (gC enB g.1)) /\ True))))) (br (decide
  ((↑(wsZ g2.4 (List.length g2.4)) : Int) > g2.1.3)) (∃ y2 : Unit, ((False) /\ ((false = false) /\ ((Eq (α := List Value) (gC enB g.1) (gC enB g2.1.1)) /\ ((Plain (gC enB
  g.1)) /\ True))))) (br (g2.2.2) (br (g2.5 != (1 : Int)) (∃ y2 : Unit, ((False) /\ ((false = false) /\ ((Eq (α := List Value) (gC enB g.1) (gC enB g2.1.1)) /\ ((Plain (gC
  enB g.1)) /\ True))))) (br (decide (Int.ofNat (List.length g2.4) > (0 : Int))) (∃ y2 : Unit, ((False) /\ ((false = false) /\ ((Eq (α := List Value) (gC enB g.1) (gC enB
  g2.1.1)) /\ ((Plain (gC enB g.1)) /\ True))))) (br (g2.5 != (0 : Int)) (br (decide (Int.ofNat (List.length g2.4) > (0 : Int))) (∃ y2 : Unit, ((False) /\ ((false = false)
  /\ ((Eq (α := List Value) (gC enB g.1) (gC enB g2.1.1)) /\ ((Plain (gC enB g.1)) /\ True))))) (br (g2.2.2) (br (!g2.3 == true) (∃ y2 : Unit, ((False) /\ ((false = false)
  /\ ((Eq (α := List Value) (gC enB g.1) (gC enB g2.1.1)) /\ ((Plain (gC enB g.1)) /\ True))))) (∃ j : SU, ((Inv j) /\ ((m j < m s) /\ ((0 = 0) /\ ((List.length g.1 =
  List.length g2.1.1) /\ ((g.2 = g2.1.2) /\ ((g.3 = g2.1.3) /\ ((0 = 0) /\ ((j.2 = true) /\ (((↑j.1 : Int) = IntKind.wrap IntKind.i64 ((↑g2.2.1 : Int) + (1 : Int))) /\ ((Eq
  (α := List Value) (gC enB g.1) (gC enB g2.1.1)) /\ ((Plain (gC enB g.1)) /\ ((0 = 0) /\ ((g.2 = g2.1.2) /\ ((g.3 = g2.1.3) /\ ((j.2 = g2.3) /\ ((0 = 0) /\ ((List.length
  j.3.1 = List.length g2.2.3.1) /\ (((↑(smZ j.3.1 (List.length j.3.1)) : Int) = (↑(smZ g2.2.3.1 (List.length g2.2.3.1)) : Int)) /\ ((j.3.3 = g2.2.3.3) /\ ((Eq (α := List
  Value) (gC enF (j.3.1 ++ j.3.2)) (gC enF (g2.2.3.1 ++ g2.2.3.2))) /\ ((Plain (gC enF (j.3.1 ++ j.3.2))) /\ True))))))))))))))))))))))) (br (!g2.3 == (g2.5 != (0 : Int)))
  (∃ y2 : Unit, ((False) /\ ((false = false) /\ ((Eq (α := List Value) (gC enB g.1) (gC enB g2.1.1)) /\ ((Plain (gC enB g.1)) /\ True))))) (∃ j : SU, ((Inv j) /\ ((m j < m
  s) /\ ((0 = 0) /\ ((List.length g.1 = List.length g2.1.1) /\ ((g.2 = g2.1.2) /\ ((g.3 = g2.1.3) /\ ((0 = 0) /\ ((j.2 = (g2.5 != (0 : Int))) /\ (((↑j.1 : Int) =
  IntKind.wrap IntKind.i64 ((↑g2.2.1 : Int) + (1 : Int))) /\ ((Eq (α := List Value) (gC enB g.1) (gC enB g2.1.1)) /\ ((Plain (gC enB g.1)) /\ ((0 = 0) /\ ((g.2 = g2.1.2) /\
  ((g.3 = g2.1.3) /\ ((j.2 = g2.3) /\ ((0 = 0) /\ ((List.length j.3.1 = List.length g2.2.3.1) /\ (((↑(smZ j.3.1 (List.length j.3.1)) : Int) = (↑(smZ g2.2.3.1 (List.length
  g2.2.3.1)) : Int)) /\ ((j.3.3 = g2.2.3.3) /\ ((Eq (α := List Value) (gC enF (j.3.1 ++ j.3.2)) (gC enF (g2.2.3.1 ++ g2.2.3.2))) /\ ((Plain (gC enF (j.3.1 ++ j.3.2))) /\
  True))))))))))))))))))))))))) (br (g2.2.2) (br (!g2.3 == true) (∃ y2 : Unit, ((False) /\ ((false = false) /\ ((Eq (α := List Value) (gC enB g.1) (gC enB g2.1.1)) /\
  ((Plain (gC enB g.1)) /\ True))))) (∃ j : SU, ((Inv j) /\ ((m j < m s) /\ ((0 = 0) /\ ((List.length g.1 = List.length g2.1.1) /\ ((g.2 = g2.1.2) /\ ((g.3 = g2.1.3) /\ ((0
  = 0) /\ ((j.2 = true) /\ (((↑j.1 : Int) = IntKind.wrap IntKind.i64 ((↑g2.2.1 : Int) + (1 : Int))) /\ ((Eq (α := List Value) (gC enB g.1) (gC enB g2.1.1)) /\ ((Plain (gC
  enB g.1)) /\ ((0 = 0) /\ ((g.2 = g2.1.2) /\ ((g.3 = g2.1.3) /\ ((j.2 = g2.3) /\ ((0 = 0) /\ ((List.length j.3.1 = List.length g2.2.3.1) /\ (((↑(smZ j.3.1 (List.length
  j.3.1)) : Int) = (↑(smZ g2.2.3.1 (List.length g2.2.3.1)) : Int)) /\ ((j.3.3 = g2.2.3.3) /\ ((Eq (α := List Value) (gC enF (j.3.1 ++ j.3.2)) (gC enF (g2.2.3.1 ++
  g2.2.3.2))) /\ ((Plain (gC enF (j.3.1 ++ j.3.2))) /\ True))))))))))))))))))))))) (br (!g2.3 == (g2.5 != (0 : Int))) (∃ y2 : Unit, ((False) /\ ((false = false) /\ ((Eq (α
  := List Value) (gC enB g.1) (gC enB g2.1.1)) /\ ((Plain (gC enB g.1)) /\ True))))) (∃ j : SU, ((Inv j) /\ ((m j < m s) /\ ((0 = 0) /\ ((List.length g.1 = List.length
  g2.1.1) /\ ((g.2 = g2.1.2) /\ ((g.3 = g2.1.3) /\ ((0 = 0) /\ ((j.2 = (g2.5 != (0 : Int))) /\ (((↑j.1 : Int) = IntKind.wrap IntKind.i64 ((↑g2.2.1 : Int) + (1 : Int))) /\
  ((Eq (α := List Value) (gC enB g.1) (gC enB g2.1.1)) /\ ((Plain (gC enB g.1)) /\ ((0 = 0) /\ ((g.2 = g2.1.2) /\ ((g.3 = g2.1.3) /\ ((j.2 = g2.3) /\ ((0 = 0) /\
  ((List.length j.3.1 = List.length g2.2.3.1) /\ (((↑(smZ j.3.1 (List.length j.3.1)) : Int) = (↑(smZ g2.2.3.1 (List.length g2.2.3.1)) : Int)) /\ ((j.3.3 = g2.2.3.3) /\ ((Eq
  (α := List Value) (gC enF (j.3.1 ++ j.3.2)) (gC enF (g2.2.3.1 ++ g2.2.3.2))) /\ ((Plain (gC enF (j.3.1 ++ j.3.2))) /\ True))))))))))))))))))))))))))) (br (g2.5 != (0 :
  Int)) (br (decide (Int.ofNat (List.length g2.4) > (0 : Int))) (∃ y2 : Unit, ((False) /\ ((false = false) /\ ((Eq (α := List Value) (gC enB g.1) (gC enB g2.1.1)) /\ ((Plain
  (gC enB g.1)) /\ True))))) (br (g2.2.2) (br (!g2.3 == true) (∃ y2 : Unit, ((False) /\ ((false = false) /\ ((Eq (α := List Value) (gC enB g.1) (gC enB g2.1.1)) /\ ((Plain
  (gC enB g.1)) /\ True))))) (∃ j : SU, ((Inv j) /\ ((m j < m s) /\ ((0 = 0) /\ ((List.length g.1 = List.length g2.1.1) /\ ((g.2 = g2.1.2) /\ ((g.3 = g2.1.3) /\ ((0 = 0) /\
  ((j.2 = true) /\ (((↑j.1 : Int) = IntKind.wrap IntKind.i64 ((↑g2.2.1 : Int) + (1 : Int))) /\ ((Eq (α := List Value) (gC enB g.1) (gC enB g2.1.1)) /\ ((Plain (gC enB g.1))
  /\ ((0 = 0) /\ ((g.2 = g2.1.2) /\ ((g.3 = g2.1.3) /\ ((j.2 = g2.3) /\ ((0 = 0) /\ ((List.length j.3.1 = List.length g2.2.3.1) /\ (((↑(smZ j.3.1 (List.length j.3.1)) : Int)
  = (↑(smZ g2.2.3.1 (List.length g2.2.3.1)) : Int)) /\ ((j.3.3 = g2.2.3.3) /\ ((Eq (α := List Value) (gC enF (j.3.1 ++ j.3.2)) (gC enF (g2.2.3.1 ++ g2.2.3.2))) /\ ((Plain
  (gC enF (j.3.1 ++ j.3.2))) /\ True))))))))))))))))))))))) (br (!g2.3 == (g2.5 != (0 : Int))) (∃ y2 : Unit, ((False) /\ ((false = false) /\ ((Eq (α := List Value) (gC enB
  g.1) (gC enB g2.1.1)) /\ ((Plain (gC enB g.1)) /\ True))))) (∃ j : SU, ((Inv j) /\ ((m j < m s) /\ ((0 = 0) /\ ((List.length g.1 = List.length g2.1.1) /\ ((g.2 = g2.1.2)
  /\ ((g.3 = g2.1.3) /\ ((0 = 0) /\ ((j.2 = (g2.5 != (0 : Int))) /\ (((↑j.1 : Int) = IntKind.wrap IntKind.i64 ((↑g2.2.1 : Int) + (1 : Int))) /\ ((Eq (α := List Value) (gC
  enB g.1) (gC enB g2.1.1)) /\ ((Plain (gC enB g.1)) /\ ((0 = 0) /\ ((g.2 = g2.1.2) /\ ((g.3 = g2.1.3) /\ ((j.2 = g2.3) /\ ((0 = 0) /\ ((List.length j.3.1 = List.length
  g2.2.3.1) /\ (((↑(smZ j.3.1 (List.length j.3.1)) : Int) = (↑(smZ g2.2.3.1 (List.length g2.2.3.1)) : Int)) /\ ((j.3.3 = g2.2.3.3) /\ ((Eq (α := List Value) (gC enF (j.3.1
  ++ j.3.2)) (gC enF (g2.2.3.1 ++ g2.2.3.2))) /\ ((Plain (gC enF (j.3.1 ++ j.3.2))) /\ True))))))))))))))))))))))))) (br (g2.2.2) (br (!g2.3 == true) (∃ y2 : Unit, ((False)
  /\ ((false = false) /\ ((Eq (α := List Value) (gC enB g.1) (gC enB g2.1.1)) /\ ((Plain (gC enB g.1)) /\ True))))) (∃ j : SU, ((Inv j) /\ ((m j < m s) /\ ((0 = 0) /\
  ((List.length g.1 = List.length g2.1.1) /\ ((g.2 = g2.1.2) /\ ((g.3 = g2.1.3) /\ ((0 = 0) /\ ((j.2 = true) /\ (((↑j.1 : Int) = IntKind.wrap IntKind.i64 ((↑g2.2.1 : Int) +
  (1 : Int))) /\ ((Eq (α := List Value) (gC enB g.1) (gC enB g2.1.1)) /\ ((Plain (gC enB g.1)) /\ ((0 = 0) /\ ((g.2 = g2.1.2) /\ ((g.3 = g2.1.3) /\ ((j.2 = g2.3) /\ ((0 = 0)
  /\ ((List.length j.3.1 = List.length g2.2.3.1) /\ (((↑(smZ j.3.1 (List.length j.3.1)) : Int) = (↑(smZ g2.2.3.1 (List.length g2.2.3.1)) : Int)) /\ ((j.3.3 = g2.2.3.3) /\
  ((Eq (α := List Value) (gC enF (j.3.1 ++ j.3.2)) (gC enF (g2.2.3.1 ++ g2.2.3.2))) /\ ((Plain (gC enF (j.3.1 ++ j.3.2))) /\ True))))))))))))))))))))))) (br (!g2.3 == (g2.5
  != (0 : Int))) (∃ y2 : Unit, ((False) /\ ((false = false) /\ ((Eq (α := List Value) (gC enB g.1) (gC enB g2.1.1)) /\ ((Plain (gC enB g.1)) /\ True))))) (∃ j : SU, ((Inv j)
  /\ ((m j < m s) /\ ((0 = 0) /\ ((List.length g.1 = List.length g2.1.1) /\ ((g.2 = g2.1.2) /\ ((g.3 = g2.1.3) /\ ((0 = 0) /\ ((j.2 = (g2.5 != (0 : Int))) /\ (((↑j.1 : Int)
  = IntKind.wrap IntKind.i64 ((↑g2.2.1 : Int) + (1 : Int))) /\ ((Eq (α := List Value) (gC enB g.1) (gC enB g2.1.1)) /\ ((Plain (gC enB g.1)) /\ ((0 = 0) /\ ((g.2 = g2.1.2)
  /\ ((g.3 = g2.1.3) /\ ((j.2 = g2.3) /\ ((0 = 0) /\ ((List.length j.3.1 = List.length g2.2.3.1) /\ (((↑(smZ j.3.1 (List.length j.3.1)) : Int) = (↑(smZ g2.2.3.1 (List.length
  g2.2.3.1)) : Int)) /\ ((j.3.3 = g2.2.3.3) /\ ((Eq (α := List Value) (gC enF (j.3.1 ++ j.3.2)) (gC enF (g2.2.3.1 ++ g2.2.3.2))) /\ ((Plain (gC enF (j.3.1 ++ j.3.2))) /\
  True))))))))))))))))))))))))))))))) (∀ (y : Unit), ((False) → (∃ y2 : Unit, ((False) /\ ((false = false) /\ ((Eq (α := List Value) (gC enB g.1) (gC enB g2.1.1)) /\ ((Plain
  (gC enB g.1)) /\ True)))))))))))))))))))))))))))))))))))))))))))))))) False) (∃ y : Unit, ((True) /\ ((Eq (α := List Value) (gC enB g.1) (gC enB g.1)) /\ ((Plain (gC enB
  g.1)) /\ True))))) (∃ y : Unit, ((True) /\ ((Eq (α := List Value) (gC enB g.1) (gC enB g.1)) /\ ((Plain (gC enB g.1)) /\ True))))) := by kernel_rfl
theorem U_vc (top list : Int) (l : List (List UInt8)) : mcall EtU mU 60 5 [.int .i64 top, .int .i64 list, slc 0 l.length] ⟨mkR (nums 0 [gRo enB l]), 1⟩ (retIs 1 (.bool true) [gRo enB l]) =
  ((((True /\ (True /\ (True /\ True))) /\ (True /\ (True /\ (I64 top /\ ((-1000000000000 : Int) <= (0 : Int) /\ ((65536 : Int) <= (1000000000000 : Int) /\ (0 : Int) <=
  (65536 : Int)))))))) /\ ((((True /\ (True /\ (True /\ True))) /\ (True /\ (True /\ (I64 list /\ ((-1000000000000 : Int) <= (0 : Int) /\ ((5000 : Int) <= (1000000000000 :
  Int) /\ (0 : Int) <= (5000 : Int)))))))) /\ (br (decide (inside top (0 : Int) (65536 : Int) < (0 : Int))) ((true = false) /\ ((Eq (α := List Value) (gC enB l) (gC enB l))
  /\ ((Plain (gC enB l)) /\ True))) (br (decide (inside top (0 : Int) (65536 : Int) > (65536 : Int))) ((true = false) /\ ((Eq (α := List Value) (gC enB l) (gC enB l)) /\
  ((Plain (gC enB l)) /\ True))) (br (decide (inside list (0 : Int) (5000 : Int) < (0 : Int))) ((true = false) /\ ((Eq (α := List Value) (gC enB l) (gC enB l)) /\ ((Plain
  (gC enB l)) /\ True))) (br (decide (inside list (0 : Int) (5000 : Int) > (2147483647 : Int))) ((true = false) /\ ((Eq (α := List Value) (gC enB l) (gC enB l)) /\ ((Plain
  (gC enB l)) /\ True))) (∃ g : GU, ((((0 : Int) <= g.2 /\ g.2 <= (65536 : Int)) /\ (0 : Int) <= g.3 /\ g.3 <= (5000 : Int)) /\ ((0 = 0) /\ ((List.length g.1 = List.length
  l) /\ ((g.2 = inside top (0 : Int) (65536 : Int)) /\ ((g.3 = inside list (0 : Int) (5000 : Int)) /\ ((0 = 0) /\ ((false = false) /\ (((↑0 : Int) = (0 : Int)) /\ ((Eq (α :=
  List Value) (gC enB g.1) (gC enB l)) /\ ((Plain (gC enB g.1)) /\ ((0 = 0) /\ ((g.2 = inside top (0 : Int) (65536 : Int)) /\ ((g.3 = inside list (0 : Int) (5000 : Int)) /\
  ((false = false) /\ ((0 = 0) /\ (((↑(smZ [] 0) : Int) = (0 : Int)) /\ ((g.2 = inside top (0 : Int) (65536 : Int)) /\ ((Eq (α := List Value) ([]) ([])) /\ (∀ (side : Bool),
  (br (side) (∀ (y : Unit), ((True) → (((True /\ (True /\ (True /\ True)))) /\ ((true = true) /\ ((Eq (α := List Value) (gC enB l) (gC enB g.1)) /\ ((Plain (gC enB l)) /\
  True)))))) (∀ (y : Unit), ((False) → ((true = false) /\ ((Eq (α := List Value) (gC enB l) (gC enB g.1)) /\ ((Plain (gC enB l)) /\ True)))))))))))))))))))))))))))))))) := by kernel_rfl
theorem eRunsU_ok : EntOk Try.prog eRunsU := entC_ok (by
  intro a rows p v news h hp
  split at h <;> simp only [Option.some.injEq, Prod.mk.injEq, reduceCtorEq] at h
  obtain ⟨rfl, rfl, rfl⟩ := h
  exact rn_law)
theorem eWiU_ok : EntOk Try.prog eWiU := entC_ok (by
  intro a rows p v news h hp
  split at h <;> simp only [Option.some.injEq, Prod.mk.injEq, reduceCtorEq] at h
  obtain ⟨rfl, rfl, rfl⟩ := h
  exact Go.Proofs.Ytellbmbklfbbfaa.tk.within_con _ _ _ hp.1 hp.2.1 hp.2.2.1 hp.2.2.2)
theorem tU_ok : ∀ x ∈ tU, EntOk Try.prog x := all_cons eUb_ok (all_cons eRunsU_ok (all_cons eWiU_ok (all_nil)))
theorem enB_k (a : List UInt8) : (enB a).length = 1 := rfl
theorem enB_pl (l : List (List UInt8)) : Plain (gC enB l) := gC_plain (fun a v hv => by
  unfold enB at hv
  rw [List.mem_singleton] at hv; subst hv; rfl) l
theorem cBf {l : List (List UInt8)} {i : Nat} (h : i < l.length) : (gC enB l)[i]? = some (.slice (some ⟨gCode (bCells l[i]), 0, some 0⟩) l[i].length 1) := by
  have := (gC_get0 enB_k l i h (by omega)).trans (rfl : (enB l[i])[0]? = some (.slice (some ⟨gCode (bCells l[i]), 0, some 0⟩) l[i].length 1))
  rwa [Nat.mul_one] at this
theorem cZ_of {l : List Value} {i z o n e : Nat} (h : l[i]? = some (.slice (some ⟨z, o, some 0⟩) n e)) : cellZ l i = z ∧ cellO l i = o ∧ cellN l i = n := by unfold cellZ cellO cellN; rw [h]; exact ⟨rfl, rfl, rfl⟩
theorem bCells_g (l : List UInt8) : gAll (bCells l) = true := by
  unfold gAll bCells
  rw [List.all_eq_true]
  intro v hv
  obtain ⟨b, _, rfl⟩ := List.mem_map.1 hv
  rfl
theorem wK (w : Wr) : (enW w).length = 3 := rfl
theorem wGet (l : List Wr) (i : Nat) (h : i < l.length) : (gC enW l)[i * 3]? = some (.string (bs l[i].f.n)) ∧ (gC enW l)[i * 3 + 1]? = some (.string (bs l[i].f.v)) ∧ (gC enW l)[i * 3 + 2]? = some (.int .i64 l[i].h) ∧ cellS (gC enW l) (i * 3) = bs l[i].f.n ∧ cellS (gC enW l) (i * 3 + 1) = bs l[i].f.v ∧ cellI (gC enW l) (i * 3 + 2) = l[i].h := by
  have h0 := gC_get wK l i 0 h (by omega)
  have h1 := gC_get wK l i 1 h (by omega)
  have h2 := gC_get wK l i 2 h (by omega)
  refine ⟨h0, h1, h2, ?_, ?_, ?_⟩
  · unfold cellS; rw [show (gC enW l)[i * 3]? = _ from h0]; rfl
  · unfold cellS; rw [h1]; rfl
  · unfold cellI; rw [h2]; rfl
theorem z_wsZ (l : List Wr) (i : Nat) : wsZ l i = wsum (l.take i) := by unfold wsZ; rw [sealV_eq]
theorem wsum_take (l : List Wr) (i : Nat) (h : i < l.length) : wsum (l.take (i + 1)) = wsum (l.take i) + fbN l[i].f := by
  rw [List.take_add_one, List.getElem?_eq_getElem h]
  exact wsum_app _ _
theorem wsum_tle (l : List Wr) (i : Nat) : wsum (l.take i) ≤ wsum l := by
  have : wsum l = wsum (l.take i) + wsum (l.drop i) := by
    unfold wsum; rw [← List.sum_append, ← List.map_append, List.take_append_drop]
  omega
theorem wsum_len (l : List Wr) : l.length * 32 ≤ wsum l := by
  induction l with
  | nil => exact Nat.le_refl _
  | cons w l ih =>
    have e : wsum (w :: l) = fbN w.f + wsum l := by unfold wsum; rw [List.map_cons, List.sum_cons]
    have : 32 ≤ fbN w.f := by unfold fbN; omega
    rw [e, List.length_cons]; omega
theorem I_piece : PieceOk EtU 1 (5, pUi, specI) := by
  refine piece_loop tk.mixed (calls_envT tU_ok) (lok_envT _ _) lm_none (n := 60) (by kernel_rfl) (fun _ : GI => 0) (fun g j => j ≤ g.W.length) (fun g j => g.W.length - j) (sl := slI) (rl := fun g _ => rlI g) (fun g hg => Nat.zero_le _) (fun g j hg hi => ?_)
  refine (I_round g j _ _).mpr ?_
  obtain ⟨h3, hw⟩ := hg
  simp only [ofNat_eq, toNat_cast, Nat.zero_add, Nat.add_zero, Nat.mul_one, List.drop_zero, bCells_len, bCells_drop, bCells_take, bCells_app, bCells_one, bCells_plain, List.length_replicate, List.length_append, List.length_take, List.length_drop, List.take_length, and_true, true_and, and_self, decide_true, List.length_nil, List.length_cons, Nat.sub_zero, dB_mk, dB_ro, List.take_zero, z_wsZ, z_smZ, fPl, plW, enB_pl]
  refine br_if (fun h => br_dec (by omega) ?_) (fun h => ?_)
  · have hi' : j < g.W.length := by omega
    obtain ⟨c0, c1, c2, d0, d1, d2⟩ := wGet g.W j hi'
    have hs := wsum_take g.W j hi'
    have hle := wsum_tle g.W (j + 1)
    obtain ⟨q1, q2⟩ := h3 _ (List.getElem_mem hi')
    have hl := wsum_len g.W
    have hL0 : (bs g.W[j].f.n).data.toList.length = g.W[j].f.n.length := rfl
    have hL1 : (bs g.W[j].f.v).data.toList.length = g.W[j].f.v.length := rfl
    have fb : fbN g.W[j].f = g.W[j].f.n.length + g.W[j].f.v.length + 32 := rfl
    have w1 : IntKind.i64.wrap ((j : Int) + 1) = ((j + 1 : Nat) : Int) := by rw [wr64_id (by unfold I64; omega)]; omega
    rw [d0, d1, d2, hL0, hL1, w1, wr64_id (n := ((wsum (List.take j g.W) : Nat) : Int) + (g.W[j].f.n.length : Nat)) (by unfold I64; omega), wr64_id (n := ((wsum (List.take j g.W) : Nat) : Int) + (g.W[j].f.n.length : Nat) + (g.W[j].f.v.length : Nat)) (by unfold I64; omega), wr64_id (by unfold I64; omega)]
    exact ⟨c0, br_dec (by omega) ⟨c1, c0, c1, br_dec (by omega) ⟨c2, br_nd (by omega) (br_dec (by omega) ⟨c2, br_nd (by omega) ⟨j + 1, by omega, by omega, by omega, rfl⟩⟩)⟩⟩⟩
  · have : j = g.W.length := by omega
    subst this
    exact ⟨(), by rw [List.take_length], rfl⟩
structure InvU (g : GU) (s : SU) : Prop where
  i : s.i ≤ g.l.length
  t : TI ⟨g.m, g.n, []⟩ s.t
theorem U_piece : PieceOk EtU 1 (5, pUo, specU) := by
  refine piece_loop tk.mixed (calls_envT tU_ok) (lok_envT _ _) (M := mI) (lm_one I_piece) (n := 60) (by kernel_rfl) (fun g : GU => (⟨0, false, ⟨[], [], g.m⟩⟩ : SU)) InvU (fun g s => g.l.length - s.i) (sl := slU) (rl := rlU) (fun g hg => ⟨Nat.zero_le _, ⟨⟨hg.1.1, hg.1.1, hg.1.2⟩, Int.le_refl _⟩⟩) (fun g s hg hi => ?_)
  refine (U_round g s _ _).mpr ?_
  obtain ⟨⟨g1, g2⟩, g3, g4⟩ := hg
  obtain ⟨i, bad, ⟨tl, tj, tm⟩⟩ := s
  obtain ⟨h1, h2, h3⟩ := hi
  simp only at h1 h2 h3
  have one : ∀ l : List Fl, smN (l.take l.length) = smN l := fun l => by rw [List.take_length]
  simp only [ofNat_eq, toNat_cast, Nat.zero_add, Nat.add_zero, Nat.mul_one, List.drop_zero, bCells_len, bCells_drop, bCells_take, bCells_app, bCells_one, bCells_plain, List.length_replicate, List.length_append, List.length_take, List.length_drop, List.take_length, and_true, true_and, and_self, decide_true, List.length_nil, List.length_cons, Nat.sub_zero, dB_mk, dB_ro, List.take_zero, z_wsZ, z_smZ, one, fPl, plW, enB_pl]
  refine br_if (fun h => ?_) (fun h => ⟨(), trivial⟩)
  refine br_if (fun h12 => ?_) (fun h12 => ⟨(), trivial⟩)
  have hic : i < g.l.length := by have : (i : Int) < (g.l.length : Int) := h; omega
  have hc := cBf hic
  obtain ⟨z1, z2, z3⟩ := cZ_of hc
  have hz : gCells (gCode (bCells g.l[i])) = bCells g.l[i] := gCells_code (bCells_g _)
  have hO : Ok ⟨tl, tj, tm⟩ := h2
  have hTs : IsTs ⟨gC enF (tl ++ tj), false, .cells true⟩ tl.length (smN tl : Nat) tm := ⟨tl, tj, rfl, rfl, rfl, h2⟩
  have hTp : TopP g.m g.n tm := ⟨g2, g3, by omega, h3⟩
  have w1 : IntKind.i64.wrap ((i : Int) + 1) = ((i + 1 : Nat) : Int) := by rw [wr64_id (by have : (i : Int) < 12 := h12; unfold I64; omega)]; omega
  have ub := fun (P : List UInt8) => ub_mk P g.m g.n bad tl tj tm true (.cells true)
  simp only [ofNat_eq, toNat_cast, Nat.zero_add, Nat.add_zero, Nat.mul_one, List.drop_zero, bCells_len, bCells_drop, bCells_take, bCells_app, bCells_one, bCells_plain, List.length_replicate, List.length_append, List.length_take, List.length_drop, List.take_length, and_true, true_and, and_self, decide_true, List.length_nil, List.length_cons, Nat.sub_zero, dB_mk, dB_ro, List.take_zero, hc, z1, z2, z3, hz, (ub _).1, (ub _).2.1, (ub _).2.2.1, (ub _).2.2.2.1, (ub _).2.2.2.2.1, (ub _).2.2.2.2.2.1, (ub _).2.2.2.2.2.2.1, (ub _).2.2.2.2.2.2.2, fPl, plW, hTs, hTp, w1]
  have main : ∀ P : List UInt8, ∃ g2 : GI, True := fun P => ⟨⟨g, ⟨i, bad, ⟨tl, tj, tm⟩⟩, bad, [], 0, 0, 0⟩, trivial⟩
  refine br_dec (by omega) (br_if (fun hp => br_dec (by omega) ⟨⟨by omega, ⟨_, rfl, by rw [List.length_take]; omega, by rw [List.length_take]; omega⟩⟩, ?_⟩) (fun hp => ⟨?_, ?_⟩))
  · obtain ⟨i1, ⟨i2, i2'⟩, i3, i4, i5, i6⟩ := up_iv ⟨g.m, g.n, List.take 400 g.l[i]⟩ bad ⟨tl, tj, tm⟩ ⟨h2, h3⟩ g3
    generalize upE ⟨g.m, g.n, List.take 400 g.l[i]⟩ bad ⟨tl, tj, tm⟩ = E at *
    generalize upW ⟨g.m, g.n, List.take 400 g.l[i]⟩ bad ⟨tl, tj, tm⟩ = W at *
    generalize upT ⟨g.m, g.n, List.take 400 g.l[i]⟩ bad ⟨tl, tj, tm⟩ = T at *
    generalize upB ⟨g.m, g.n, List.take 400 g.l[i]⟩ bad ⟨tl, tj, tm⟩ = B at *
    refine ⟨⟨g, ⟨i, bad, T⟩, B, W, (E : Nat), (smN T.l : Nat), T.most⟩, ⟨i3, by simp only at i2 ⊢; omega⟩, rfl, rfl, rfl, rfl, rfl, rfl, rfl, rfl, rfl, rfl, rfl, rfl, rfl, rfl, rfl, rfl, rfl, rfl, rfl, fun side => br_side (fun _ _ => ?_) (fun _ h => h.elim) side⟩
    obtain ⟨⟨o1, o2, o3⟩, o4⟩ := i1
    simp only at o4 i2
    refine br_nd (by simp only; omega) (br_nd (by simp only; omega) (br_nd (by simp only; omega) ?_))
    cases bad with
    | true =>
      have eE : E = 1 := i5 rfl
      subst eE
      have eW : W = [] := i4 (by omega)
      subst eW
      have eB : B = true := by rw [i6]; rfl
      subst eB
      refine br_b rfl (br_nb rfl (br_nd (by simp) (br_b rfl (br_nd (by simp) (br_b rfl (br_nb rfl ?_))))))
      exact ⟨⟨i + 1, true, T⟩, ⟨by simp only; omega, ⟨o1, o2, o3⟩, o4⟩, by simp only; omega, rfl, rfl, rfl, rfl, w1.symm, by simp⟩
    | false =>
      refine br_nb rfl ?_
      by_cases hE : E = 0
      · subst hE
        have eB : B = false := by rw [i6]; rfl
        subst eB
        refine br_nb rfl (br_nb rfl (br_nb rfl ?_))
        exact ⟨⟨i + 1, false, T⟩, ⟨by simp only; omega, ⟨o1, o2, o3⟩, o4⟩, by simp only; omega, rfl, rfl, rfl, rfl, w1.symm, by simp⟩
      · have eW : W = [] := i4 hE
        subst eW
        have eB : B = true := by rw [i6]; simp [hE]
        subst eB
        have bE : (((E : Nat) : Int) != 0) = true := by simp; omega
        refine br_b bE (br_nd (by simp) (br_nb rfl (br_nb (by simp only [bE]; rfl) ?_)))
        exact ⟨⟨i + 1, true, T⟩, ⟨by simp only; omega, ⟨o1, o2, o3⟩, o4⟩, by simp only; omega, rfl, rfl, rfl, bE.symm, w1.symm, by simp⟩
  · exact ⟨Nat.le_refl _, _, rfl, rfl, by omega⟩
  · obtain ⟨i1, ⟨i2, i2'⟩, i3, i4, i5, i6⟩ := up_iv ⟨g.m, g.n, g.l[i]⟩ bad ⟨tl, tj, tm⟩ ⟨h2, h3⟩ g3
    generalize upE ⟨g.m, g.n, g.l[i]⟩ bad ⟨tl, tj, tm⟩ = E at *
    generalize upW ⟨g.m, g.n, g.l[i]⟩ bad ⟨tl, tj, tm⟩ = W at *
    generalize upT ⟨g.m, g.n, g.l[i]⟩ bad ⟨tl, tj, tm⟩ = T at *
    generalize upB ⟨g.m, g.n, g.l[i]⟩ bad ⟨tl, tj, tm⟩ = B at *
    refine ⟨⟨g, ⟨i, bad, T⟩, B, W, (E : Nat), (smN T.l : Nat), T.most⟩, ⟨i3, by simp only at i2 ⊢; omega⟩, rfl, rfl, rfl, rfl, rfl, rfl, rfl, rfl, rfl, rfl, rfl, rfl, rfl, rfl, rfl, rfl, rfl, rfl, rfl, fun side => br_side (fun _ _ => ?_) (fun _ h => h.elim) side⟩
    obtain ⟨⟨o1, o2, o3⟩, o4⟩ := i1
    simp only at o4 i2
    refine br_nd (by simp only; omega) (br_nd (by simp only; omega) (br_nd (by simp only; omega) ?_))
    cases bad with
    | true =>
      have eE : E = 1 := i5 rfl
      subst eE
      have eW : W = [] := i4 (by omega)
      subst eW
      have eB : B = true := by rw [i6]; rfl
      subst eB
      refine br_b rfl (br_nb rfl (br_nd (by simp) (br_b rfl (br_nd (by simp) (br_b rfl (br_nb rfl ?_))))))
      exact ⟨⟨i + 1, true, T⟩, ⟨by simp only; omega, ⟨o1, o2, o3⟩, o4⟩, by simp only; omega, rfl, rfl, rfl, rfl, w1.symm, by simp⟩
    | false =>
      refine br_nb rfl ?_
      by_cases hE : E = 0
      · subst hE
        have eB : B = false := by rw [i6]; rfl
        subst eB
        refine br_nb rfl (br_nb rfl (br_nb rfl ?_))
        exact ⟨⟨i + 1, false, T⟩, ⟨by simp only; omega, ⟨o1, o2, o3⟩, o4⟩, by simp only; omega, rfl, rfl, rfl, rfl, w1.symm, by simp⟩
      · have eW : W = [] := i4 hE
        subst eW
        have eB : B = true := by rw [i6]; simp [hE]
        subst eB
        have bE : (((E : Nat) : Int) != 0) = true := by simp; omega
        refine br_b bE (br_nd (by simp) (br_nb rfl (br_nb (by simp only [bE]; rfl) ?_)))
        exact ⟨⟨i + 1, true, T⟩, ⟨by simp only; omega, ⟨o1, o2, o3⟩, o4⟩, by simp only; omega, rfl, rfl, rfl, bE.symm, w1.symm, by simp⟩
theorem U_law (top list : Int) (l : List (List UInt8)) (ht : I64 top) (hs : I64 list) (hl : l.length ≤ maxLen) (ho : ∀ x ∈ l, x.length ≤ maxLen) : Con Try.prog 5 [.int .i64 top, .int .i64 list, slc 0 l.length] [gRo enB l] (.bool true) [gRo enB l] := by
  refine con_vc (E := EtU) tk.mixed (calls_envT tU_ok) (lok_envT _ _) (M := mU) (lm_one U_piece) (U_vc top list l) ?_
  obtain ⟨a1, a2⟩ := Go.Proofs.Ytellbmbklfbbfaa.tk.inside_in top 0 65536 (by omega)
  obtain ⟨b1, b2⟩ := Go.Proofs.Ytellbmbklfbbfaa.tk.inside_in list 0 5000 (by omega)
  simp only [ofNat_eq, toNat_cast, Nat.zero_add, Nat.add_zero, Nat.mul_one, List.drop_zero, bCells_len, bCells_drop, bCells_take, bCells_app, bCells_one, bCells_plain, List.length_replicate, List.length_append, List.length_take, List.length_drop, List.take_length, and_true, true_and, and_self, decide_true, List.length_nil, List.length_cons, Nat.sub_zero, dB_mk, dB_ro, List.take_zero, z_wsZ, z_smZ, fPl, plW, enB_pl]
  refine ⟨⟨ht, by omega, by omega, by omega⟩, ⟨hs, by omega, by omega, by omega⟩, br_nd (by omega) (br_nd (by omega) (br_nd (by omega) (br_nd (by omega) ?_)))⟩
  exact ⟨⟨l, Go.Proofs.Ytellbmbklfbbfaa.tk.inside top 0 65536, Go.Proofs.Ytellbmbklfbbfaa.tk.inside list 0 5000⟩, ⟨⟨a1, a2⟩, b1, b2⟩, rfl, rfl, rfl, rfl, rfl, rfl, rfl, rfl, fun side => br_side (fun _ _ => rfl) (fun _ h => h.elim) side⟩
theorem gu_of {Q : Nat → Prop} {M : List (List Value)} (hL : ∀ c ∈ M, GCells Q [.sl 34 5 [.i .u8]] c) :
    ∃ a : List (List UInt8), a.length = M.length ∧ M.flatten = gC enB a ∧ ∀ x ∈ a, x.length ≤ maxLen := by
  induction M with
  | nil => exact ⟨[], rfl, rfl, fun x hx => by simp at hx⟩
  | cons c M ih =>
    obtain ⟨a, h1, h2, h3⟩ := ih (fun d hd => hL d (List.mem_cons_of_mem _ hd))
    have hc := hL c (List.mem_cons_self ..)
    match c, hc with
    | [v], hc =>
      obtain ⟨f3, _⟩ := hc
      obtain ⟨n, cells, rfl, hel, hm, hq⟩ := f3
      obtain ⟨p, hl, rfl⟩ := elems_bytes hel.elems
      subst hl
      refine ⟨p :: a, by rw [List.length_cons, List.length_cons, h1], by rw [List.flatten_cons, h2, gC_cons]; rfl, ?_⟩
      intro x hx
      rcases List.mem_cons.1 hx with rfl | hx
      · exact hm
      · exact h3 x hx
end Go.Proofs.Ytellbmbklfbbfaa.up
