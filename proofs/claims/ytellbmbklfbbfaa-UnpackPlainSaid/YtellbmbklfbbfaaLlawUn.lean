/- UnpackPlain: fields that are written without the table and without the code are read; the table stays empty. -/
import Derived.Test.YtellbmbklfbbfaaSz9
import Derived.Test.YtellbmbklfbbfaaRows
import Derived.Test.YtellbmbklfbbfaaLupI
import Derived.Test.YtellbmbklfbbfaaLwrs
import Derived.Test.YtellbmbklfbbfaaLlawHu7
set_option maxRecDepth 20000
set_option linter.unusedSimpArgs false
set_option linter.unusedVariables false
namespace Go.Proofs.Ytellbmbklfbbfaa.up
open Go Go.Ev Go.Sy Go.RowKit Go.Proofs.Ytellbmbklfbbfaa.gl Go.Proofs.Ytellbmbklfbbfaa.tk Go.Proofs.Ytellbmbklfbbfaa.hf Go.Proofs.Ytellbmbklfbbfaa.s3 Go.Proofs.Ytellbmbklfbbfaa.tb Go.Proofs.Ytellbmbklfbbfaa.wr
noncomputable def eRunsV : EntM := entC 3 fun a r => match a, r with
  | [], [] => some (True, .bool true, [])
  | _, _ => none
def pUn : List Nat := [0, 1, 0, 1, 1, 1, 1, 1]
def okB (f : Fl) : Bool := decide (f.n.length ≤ 100) && decide (f.v.length ≤ 100)
def hdU (nv : Bool) : UInt8 := if nv then 16 else 0
def hwU (nv : Bool) : Int := if nv then 3 else 2
structure GN where
  l : List Fl
  nv : Bool
structure SN where
  i : Nat
  o : List UInt8
  W : List Wr
def selU (g : GN) (i : Nat) : List Fl := (g.l.take i).filter okB
noncomputable def rlN (g : GN) (s : SN) : List (Nat × Row) := [(0, gRo enF g.l), (1, rd1 4096 2147483647 false 2), (2, rd4 0 0 4096 3), (3, ⟨[], false, .cells true⟩), (4, bOwn s.o), (5, gOwn enW s.W)]
def slN (g : GN) (s : SN) : List (Nat × Value) := [(0, .slice (some ⟨0, 0, none⟩) g.l.length 2), (1, .bool g.nv), (5, .pointer (some ⟨1, 0, none⟩)), (7, slc 4 s.o.length), (8, .slice (some ⟨5, 0, none⟩) s.W.length 3), (9, .int .i64 (s.i : Nat))]
noncomputable def wsN (g : GN) : List (Gate SN) := [⟨.exit 0, fun s => s.i ≤ 20 ∧ s.o = itsB (hdU g.nv) (selU g 20) ∧ s.W = (selU g 20).map (fun f => ⟨f, hwU g.nv⟩), fun s => [(5, .pointer (some ⟨1, 0, none⟩)), (7, slc 4 s.o.length), (8, .slice (some ⟨5, 0, none⟩) s.W.length 3)], rlN g, 6⟩]
noncomputable def specN : Sy.Spec := specOf 1 6 129 (fun g : GN => g.l.length ≤ maxLen) (fun g => slN g ⟨0, [], []⟩) (fun g => rlN g ⟨0, [], []⟩) wsN
noncomputable def mN := mOf [(6, pUn, specN)]
noncomputable def tN : List EntM := [eUb, eRunsV, eSaW]
noncomputable abbrev EtN : Env := envT Try.prog tN
theorem N_round (g : GN) (s : SN) (Inv : SN → Prop) (m : SN → Nat) : mev EtN noM 60 6 (0 :: pUn) false (codeOf Try.prog 6 (0 :: pUn)) ⟨mkOv (slN g s), 129, []⟩ none ⟨mkR (rlN g s), 6⟩ (roundK 1 6 129 Inv m (slN g) (rlN g) (wsN g) s) =
  (br (decide ((↑s.1 : Int) < Int.ofNat (List.length g.1))) (br (decide ((↑s.1 : Int) < (20 : Int))) (br (decide ((0 : Int) <= (↑s.1 : Int) /\ (↑s.1 : Int) < (↑(List.length
  g.1) : Int))) ((Eq (α := Option Value) ((gC enF g.1)[0 + Int.toNat (↑s.1 : Int) * 2 + 0]?) (some (Value.string (cellS (gC enF g.1) (0 + Int.toNat (↑s.1 : Int) * 2 + 0)))))
  /\ (br (decide (Int.ofNat (List.length (Array.toList (ByteArray.data (cellS (gC enF g.1) (0 + Int.toNat (↑s.1 : Int) * 2 + 0))))) > (100 : Int))) (∃ j : SN, ((Inv j) /\
  ((m j < m s) /\ ((0 = 0) /\ ((List.length g.1 = List.length g.1) /\ ((g.2 = g.2) /\ ((0 = 0) /\ ((0 = 0) /\ ((List.length j.2 = List.length s.2) /\ ((0 = 0) /\
  ((List.length j.3 = List.length s.3) /\ (((↑j.1 : Int) = IntKind.wrap IntKind.i64 ((↑s.1 : Int) + (1 : Int))) /\ ((Eq (α := List Value) (gC enF g.1) (gC enF g.1)) /\
  ((Plain (gC enF g.1)) /\ ((0 = 0) /\ (((4096 : Int) = (4096 : Int)) /\ (((2147483647 : Int) = (2147483647 : Int)) /\ ((false = false) /\ ((0 = 0) /\ ((0 = 0) /\ (((0 :
  Int) = (0 : Int)) /\ (((4096 : Int) = (4096 : Int)) /\ ((Eq (α := List Value) ([]) ([])) /\ ((Plain []) /\ ((Eq (α := List Value) (bCells j.2) (bCells s.2)) /\ ((Plain
  (bCells j.2)) /\ ((Eq (α := List Value) (gC enW j.3) (gC enW s.3)) /\ ((Plain (gC enW j.3)) /\ True)))))))))))))))))))))))))))) (br (decide ((0 : Int) <= (↑s.1 : Int) /\
  (↑s.1 : Int) < (↑(List.length g.1) : Int))) ((Eq (α := Option Value) ((gC enF g.1)[0 + Int.toNat (↑s.1 : Int) * 2 + 1]?) (some (Value.string (cellS (gC enF g.1) (0 +
  Int.toNat (↑s.1 : Int) * 2 + 1))))) /\ (br (decide (Int.ofNat (List.length (Array.toList (ByteArray.data (cellS (gC enF g.1) (0 + Int.toNat (↑s.1 : Int) * 2 + 1))))) >
  (100 : Int))) (∃ j : SN, ((Inv j) /\ ((m j < m s) /\ ((0 = 0) /\ ((List.length g.1 = List.length g.1) /\ ((g.2 = g.2) /\ ((0 = 0) /\ ((0 = 0) /\ ((List.length j.2 =
  List.length s.2) /\ ((0 = 0) /\ ((List.length j.3 = List.length s.3) /\ (((↑j.1 : Int) = IntKind.wrap IntKind.i64 ((↑s.1 : Int) + (1 : Int))) /\ ((Eq (α := List Value) (gC
  enF g.1) (gC enF g.1)) /\ ((Plain (gC enF g.1)) /\ ((0 = 0) /\ (((4096 : Int) = (4096 : Int)) /\ (((2147483647 : Int) = (2147483647 : Int)) /\ ((false = false) /\ ((0 = 0)
  /\ ((0 = 0) /\ (((0 : Int) = (0 : Int)) /\ (((4096 : Int) = (4096 : Int)) /\ ((Eq (α := List Value) ([]) ([])) /\ ((Plain []) /\ ((Eq (α := List Value) (bCells j.2)
  (bCells s.2)) /\ ((Plain (bCells j.2)) /\ ((Eq (α := List Value) (gC enW j.3) (gC enW s.3)) /\ ((Plain (gC enW j.3)) /\ True)))))))))))))))))))))))))))) (br (g.2) (br
  (decide ((0 : Int) <= (↑s.1 : Int) /\ (↑s.1 : Int) < (↑(List.length g.1) : Int))) ((Eq (α := Option Value) ((gC enF g.1)[0 + Int.toNat (↑s.1 : Int) * 2 + 0]?) (some
  (Value.string (cellS (gC enF g.1) (0 + Int.toNat (↑s.1 : Int) * 2 + 0))))) /\ (br (decide (List.length s.2 + 2 <= 16777216)) (br (decide (0 + List.length s.2 * 1 <=
  List.length (bCells s.2))) (br (decide ((0 : Int) <= (↑s.1 : Int) /\ (↑s.1 : Int) < (↑(List.length g.1) : Int))) ((Eq (α := Option Value) ((gC enF g.1)[0 + Int.toNat (↑s.1
  : Int) * 2 + 0]?) (some (Value.string (cellS (gC enF g.1) (0 + Int.toNat (↑s.1 : Int) * 2 + 0))))) /\ (br (allOne (List.map (fun b ↦ Value.int IntKind.u8 (↑(UInt8.toNat b)
  : Int)) (Array.toList (ByteArray.data (cellS (gC enF g.1) (0 + Int.toNat (↑s.1 : Int) * 2 + 0)))))) (br (decide (List.length s.2 + 2 + List.length (Array.toList
  (ByteArray.data (cellS (gC enF g.1) (0 + Int.toNat (↑s.1 : Int) * 2 + 0)))) <= 16777216)) (br (decide (0 < List.length s.2 + 2 + List.length (Array.toList (ByteArray.data
  (cellS (gC enF g.1) (0 + Int.toNat (↑s.1 : Int) * 2 + 0)))) ∨ List.length (List.take (List.length s.2 * 1) (List.drop 0 (bCells s.2)) ++ [Value.int IntKind.u8 (16 : Int),
  Value.int IntKind.u8 (IntKind.wrap IntKind.u8 (Int.ofNat (List.length (Array.toList (ByteArray.data (cellS (gC enF g.1) (0 + Int.toNat (↑s.1 : Int) * 2 + 0)))))))]) = 0))
  (br (decide (0 + (List.length s.2 + 2) * 1 <= List.length (List.take (List.length s.2 * 1) (List.drop 0 (bCells s.2)) ++ [Value.int IntKind.u8 (16 : Int), Value.int
  IntKind.u8 (IntKind.wrap IntKind.u8 (Int.ofNat (List.length (Array.toList (ByteArray.data (cellS (gC enF g.1) (0 + Int.toNat (↑s.1 : Int) * 2 + 0)))))))]))) (br (decide
  ((0 : Int) <= (↑s.1 : Int) /\ (↑s.1 : Int) < (↑(List.length g.1) : Int))) ((Eq (α := Option Value) ((gC enF g.1)[0 + Int.toNat (↑s.1 : Int) * 2 + 1]?) (some (Value.string
  (cellS (gC enF g.1) (0 + Int.toNat (↑s.1 : Int) * 2 + 1))))) /\ (br (decide (List.length s.2 + 2 + List.length (Array.toList (ByteArray.data (cellS (gC enF g.1) (0 +
  Int.toNat (↑s.1 : Int) * 2 + 0)))) + 1 <= 16777216)) (br (decide (0 + (List.length s.2 + 2 + List.length (Array.toList (ByteArray.data (cellS (gC enF g.1) (0 + Int.toNat
  (↑s.1 : Int) * 2 + 0))))) * 1 <= List.length (List.take ((List.length s.2 + 2) * 1) (List.drop 0 (List.take (List.length s.2 * 1) (List.drop 0 (bCells s.2)) ++ [Value.int
  IntKind.u8 (16 : Int), Value.int IntKind.u8 (IntKind.wrap IntKind.u8 (Int.ofNat (List.length (Array.toList (ByteArray.data (cellS (gC enF g.1) (0 + Int.toNat (↑s.1 : Int)
  * 2 + 0)))))))])) ++ List.map (fun b ↦ Value.int IntKind.u8 (↑(UInt8.toNat b) : Int)) (Array.toList (ByteArray.data (cellS (gC enF g.1) (0 + Int.toNat (↑s.1 : Int) * 2 +
  0))))))) (br (decide ((0 : Int) <= (↑s.1 : Int) /\ (↑s.1 : Int) < (↑(List.length g.1) : Int))) ((Eq (α := Option Value) ((gC enF g.1)[0 + Int.toNat (↑s.1 : Int) * 2 + 1]?)
  (some (Value.string (cellS (gC enF g.1) (0 + Int.toNat (↑s.1 : Int) * 2 + 1))))) /\ (br (allOne (List.map (fun b ↦ Value.int IntKind.u8 (↑(UInt8.toNat b) : Int))
  (Array.toList (ByteArray.data (cellS (gC enF g.1) (0 + Int.toNat (↑s.1 : Int) * 2 + 1)))))) (br (decide (List.length s.2 + 2 + List.length (Array.toList (ByteArray.data
  (cellS (gC enF g.1) (0 + Int.toNat (↑s.1 : Int) * 2 + 0)))) + 1 + List.length (Array.toList (ByteArray.data (cellS (gC enF g.1) (0 + Int.toNat (↑s.1 : Int) * 2 + 1)))) <=
  16777216)) (br (decide (0 < List.length s.2 + 2 + List.length (Array.toList (ByteArray.data (cellS (gC enF g.1) (0 + Int.toNat (↑s.1 : Int) * 2 + 0)))) + 1 + List.length
  (Array.toList (ByteArray.data (cellS (gC enF g.1) (0 + Int.toNat (↑s.1 : Int) * 2 + 1)))) ∨ List.length (List.take ((List.length s.2 + 2 + List.length (Array.toList
  (ByteArray.data (cellS (gC enF g.1) (0 + Int.toNat (↑s.1 : Int) * 2 + 0))))) * 1) (List.drop 0 (List.take ((List.length s.2 + 2) * 1) (List.drop 0 (List.take (List.length
  s.2 * 1) (List.drop 0 (bCells s.2)) ++ [Value.int IntKind.u8 (16 : Int), Value.int IntKind.u8 (IntKind.wrap IntKind.u8 (Int.ofNat (List.length (Array.toList
  (ByteArray.data (cellS (gC enF g.1) (0 + Int.toNat (↑s.1 : Int) * 2 + 0)))))))])) ++ List.map (fun b ↦ Value.int IntKind.u8 (↑(UInt8.toNat b) : Int)) (Array.toList
  (ByteArray.data (cellS (gC enF g.1) (0 + Int.toNat (↑s.1 : Int) * 2 + 0)))))) ++ [Value.int IntKind.u8 (IntKind.wrap IntKind.u8 (Int.ofNat (List.length (Array.toList
  (ByteArray.data (cellS (gC enF g.1) (0 + Int.toNat (↑s.1 : Int) * 2 + 1)))))))]) = 0)) (br (decide (0 + (List.length s.2 + 2 + List.length (Array.toList (ByteArray.data
  (cellS (gC enF g.1) (0 + Int.toNat (↑s.1 : Int) * 2 + 0)))) + 1) * 1 <= List.length (List.take ((List.length s.2 + 2 + List.length (Array.toList (ByteArray.data (cellS (gC
  enF g.1) (0 + Int.toNat (↑s.1 : Int) * 2 + 0))))) * 1) (List.drop 0 (List.take ((List.length s.2 + 2) * 1) (List.drop 0 (List.take (List.length s.2 * 1) (List.drop 0
  (bCells s.2)) ++ [Value.int IntKind.u8 (16 : Int), Value.int IntKind.u8 (IntKind.wrap IntKind.u8 (Int.ofNat (List.length (Array.toList (ByteArray.data (cellS (gC enF g.1)
  (0 + Int.toNat (↑s.1 : Int) * 2 + 0)))))))])) ++ List.map (fun b ↦ Value.int IntKind.u8 (↑(UInt8.toNat b) : Int)) (Array.toList (ByteArray.data (cellS (gC enF g.1) (0 +
  Int.toNat (↑s.1 : Int) * 2 + 0)))))) ++ [Value.int IntKind.u8 (IntKind.wrap IntKind.u8 (Int.ofNat (List.length (Array.toList (ByteArray.data (cellS (gC enF g.1) (0 +
  Int.toNat (↑s.1 : Int) * 2 + 1)))))))]))) ((Eq (α := Option Value) ((gC enF g.1)[0 + Int.toNat (↑s.1 : Int) * 2 + 0]?) (some (Value.string (cellS (gC enF g.1) (0 +
  Int.toNat (↑s.1 : Int) * 2 + 0))))) /\ ((Value.string (cellS (gC enF g.1) (0 + Int.toNat (↑s.1 : Int) * 2 + 0)) = Value.string (cellS (gC enF g.1) (0 + Int.toNat (↑s.1 :
  Int) * 2 + 0))) /\ ((Value.int IntKind.u8 (IntKind.wrap IntKind.u8 (Int.ofNat (List.length (Array.toList (ByteArray.data (cellS (gC enF g.1) (0 + Int.toNat (↑s.1 : Int) *
  2 + 0))))))) = Value.int IntKind.u8 (IntKind.wrap IntKind.u8 (Int.ofNat (List.length (Array.toList (ByteArray.data (cellS (gC enF g.1) (0 + Int.toNat (↑s.1 : Int) * 2 +
  0)))))))) /\ ((Eq (α := Option Value) ((gC enF g.1)[0 + Int.toNat (↑s.1 : Int) * 2 + 0]?) (some (Value.string (cellS (gC enF g.1) (0 + Int.toNat (↑s.1 : Int) * 2 + 0)))))
  /\ ((Value.string (cellS (gC enF g.1) (0 + Int.toNat (↑s.1 : Int) * 2 + 0)) = Value.string (cellS (gC enF g.1) (0 + Int.toNat (↑s.1 : Int) * 2 + 0))) /\ ((Eq (α := Option
  Value) ((gC enF g.1)[0 + Int.toNat (↑s.1 : Int) * 2 + 0]?) (some (Value.string (cellS (gC enF g.1) (0 + Int.toNat (↑s.1 : Int) * 2 + 0))))) /\ ((Value.string (cellS (gC
  enF g.1) (0 + Int.toNat (↑s.1 : Int) * 2 + 0)) = Value.string (cellS (gC enF g.1) (0 + Int.toNat (↑s.1 : Int) * 2 + 0))) /\ ((Eq (α := Option Value) ((gC enF g.1)[0 +
  Int.toNat (↑s.1 : Int) * 2 + 1]?) (some (Value.string (cellS (gC enF g.1) (0 + Int.toNat (↑s.1 : Int) * 2 + 1))))) /\ ((Value.string (cellS (gC enF g.1) (0 + Int.toNat
  (↑s.1 : Int) * 2 + 1)) = Value.string (cellS (gC enF g.1) (0 + Int.toNat (↑s.1 : Int) * 2 + 1))) /\ ((Eq (α := Option Value) ((gC enF g.1)[0 + Int.toNat (↑s.1 : Int) * 2 +
  1]?) (some (Value.string (cellS (gC enF g.1) (0 + Int.toNat (↑s.1 : Int) * 2 + 1))))) /\ ((Value.string (cellS (gC enF g.1) (0 + Int.toNat (↑s.1 : Int) * 2 + 1)) =
  Value.string (cellS (gC enF g.1) (0 + Int.toNat (↑s.1 : Int) * 2 + 1))) /\ ((Eq (α := Option Value) ((gC enF g.1)[0 + Int.toNat (↑s.1 : Int) * 2 + 1]?) (some (Value.string
  (cellS (gC enF g.1) (0 + Int.toNat (↑s.1 : Int) * 2 + 1))))) /\ ((Value.string (cellS (gC enF g.1) (0 + Int.toNat (↑s.1 : Int) * 2 + 1)) = Value.string (cellS (gC enF g.1)
  (0 + Int.toNat (↑s.1 : Int) * 2 + 1))) /\ ((Value.int IntKind.u8 (IntKind.wrap IntKind.u8 (Int.ofNat (List.length (Array.toList (ByteArray.data (cellS (gC enF g.1) (0 +
  Int.toNat (↑s.1 : Int) * 2 + 1))))))) = Value.int IntKind.u8 (IntKind.wrap IntKind.u8 (Int.ofNat (List.length (Array.toList (ByteArray.data (cellS (gC enF g.1) (0 +
  Int.toNat (↑s.1 : Int) * 2 + 1)))))))) /\ ((Value.int IntKind.u8 (IntKind.wrap IntKind.u8 (Int.ofNat (List.length (Array.toList (ByteArray.data (cellS (gC enF g.1) (0 +
  Int.toNat (↑s.1 : Int) * 2 + 1))))))) = Value.int IntKind.u8 (IntKind.wrap IntKind.u8 (Int.ofNat (List.length (Array.toList (ByteArray.data (cellS (gC enF g.1) (0 +
  Int.toNat (↑s.1 : Int) * 2 + 1)))))))) /\ ((Value.int IntKind.u8 (IntKind.wrap IntKind.u8 (Int.ofNat (List.length (Array.toList (ByteArray.data (cellS (gC enF g.1) (0 +
  Int.toNat (↑s.1 : Int) * 2 + 1))))))) = Value.int IntKind.u8 (IntKind.wrap IntKind.u8 (Int.ofNat (List.length (Array.toList (ByteArray.data (cellS (gC enF g.1) (0 +
  Int.toNat (↑s.1 : Int) * 2 + 1)))))))) /\ ((Eq (α := Option Value) ((gC enF g.1)[0 + Int.toNat (↑s.1 : Int) * 2 + 1]?) (some (Value.string (cellS (gC enF g.1) (0 +
  Int.toNat (↑s.1 : Int) * 2 + 1))))) /\ ((Value.string (cellS (gC enF g.1) (0 + Int.toNat (↑s.1 : Int) * 2 + 1)) = Value.string (cellS (gC enF g.1) (0 + Int.toNat (↑s.1 :
  Int) * 2 + 1))) /\ ((Eq (α := Option Value) ((gC enF g.1)[0 + Int.toNat (↑s.1 : Int) * 2 + 1]?) (some (Value.string (cellS (gC enF g.1) (0 + Int.toNat (↑s.1 : Int) * 2 +
  1))))) /\ ((Value.string (cellS (gC enF g.1) (0 + Int.toNat (↑s.1 : Int) * 2 + 1)) = Value.string (cellS (gC enF g.1) (0 + Int.toNat (↑s.1 : Int) * 2 + 1))) /\ ((Eq (α :=
  Option Value) ((gC enF g.1)[0 + Int.toNat (↑s.1 : Int) * 2 + 1]?) (some (Value.string (cellS (gC enF g.1) (0 + Int.toNat (↑s.1 : Int) * 2 + 1))))) /\ ((Value.string (cellS
  (gC enF g.1) (0 + Int.toNat (↑s.1 : Int) * 2 + 1)) = Value.string (cellS (gC enF g.1) (0 + Int.toNat (↑s.1 : Int) * 2 + 1))) /\ ((Eq (α := Option Value) ((gC enF g.1)[0 +
  Int.toNat (↑s.1 : Int) * 2 + 1]?) (some (Value.string (cellS (gC enF g.1) (0 + Int.toNat (↑s.1 : Int) * 2 + 1))))) /\ ((Value.string (cellS (gC enF g.1) (0 + Int.toNat
  (↑s.1 : Int) * 2 + 1)) = Value.string (cellS (gC enF g.1) (0 + Int.toNat (↑s.1 : Int) * 2 + 1))) /\ (br (decide ((0 : Int) <= (↑s.1 : Int) /\ (↑s.1 : Int) < (↑(List.length
  g.1) : Int))) ((Eq (α := Option Value) ((gC enF g.1)[0 + Int.toNat (↑s.1 : Int) * 2]?) (some (Value.string (cellS (gC enF g.1) (0 + Int.toNat (↑s.1 : Int) * 2))))) /\ ((Eq
  (α := Option Value) ((gC enF g.1)[0 + Int.toNat (↑s.1 : Int) * 2 + 1]?) (some (Value.string (cellS (gC enF g.1) (0 + Int.toNat (↑s.1 : Int) * 2 + 1))))) /\ (br (decide
  (List.length s.3 + 1 <= 16777216)) (br (decide (0 + List.length s.3 * 3 <= List.length (gC enW s.3))) (∃ j : SN, ((Inv j) /\ ((m j < m s) /\ ((0 = 0) /\ ((List.length g.1
  = List.length g.1) /\ ((g.2 = g.2) /\ ((0 = 0) /\ ((0 = 0) /\ ((List.length j.2 = List.length s.2 + 2 + List.length (Array.toList (ByteArray.data (cellS (gC enF g.1) (0 +
  Int.toNat (↑s.1 : Int) * 2 + 0)))) + 1 + List.length (Array.toList (ByteArray.data (cellS (gC enF g.1) (0 + Int.toNat (↑s.1 : Int) * 2 + 1))))) /\ ((0 = 0) /\
  ((List.length j.3 = List.length s.3 + 1) /\ (((↑j.1 : Int) = IntKind.wrap IntKind.i64 ((↑s.1 : Int) + (1 : Int))) /\ ((Eq (α := List Value) (gC enF g.1) (gC enF g.1)) /\
  ((Plain (gC enF g.1)) /\ ((0 = 0) /\ (((4096 : Int) = (4096 : Int)) /\ (((2147483647 : Int) = (2147483647 : Int)) /\ ((false = false) /\ ((0 = 0) /\ ((0 = 0) /\ (((0 :
  Int) = (0 : Int)) /\ (((4096 : Int) = (4096 : Int)) /\ ((Eq (α := List Value) ([]) ([])) /\ ((Plain []) /\ ((Eq (α := List Value) (bCells j.2) (List.take ((List.length s.2
  + 2 + List.length (Array.toList (ByteArray.data (cellS (gC enF g.1) (0 + Int.toNat (↑s.1 : Int) * 2 + 0)))) + 1) * 1) (List.drop 0 (List.take ((List.length s.2 + 2 +
  List.length (Array.toList (ByteArray.data (cellS (gC enF g.1) (0 + Int.toNat (↑s.1 : Int) * 2 + 0))))) * 1) (List.drop 0 (List.take ((List.length s.2 + 2) * 1) (List.drop
  0 (List.take (List.length s.2 * 1) (List.drop 0 (bCells s.2)) ++ [Value.int IntKind.u8 (16 : Int), Value.int IntKind.u8 (IntKind.wrap IntKind.u8 (Int.ofNat (List.length
  (Array.toList (ByteArray.data (cellS (gC enF g.1) (0 + Int.toNat (↑s.1 : Int) * 2 + 0)))))))])) ++ List.map (fun b ↦ Value.int IntKind.u8 (↑(UInt8.toNat b) : Int))
  (Array.toList (ByteArray.data (cellS (gC enF g.1) (0 + Int.toNat (↑s.1 : Int) * 2 + 0)))))) ++ [Value.int IntKind.u8 (IntKind.wrap IntKind.u8 (Int.ofNat (List.length
  (Array.toList (ByteArray.data (cellS (gC enF g.1) (0 + Int.toNat (↑s.1 : Int) * 2 + 1)))))))])) ++ List.map (fun b ↦ Value.int IntKind.u8 (↑(UInt8.toNat b) : Int))
  (Array.toList (ByteArray.data (cellS (gC enF g.1) (0 + Int.toNat (↑s.1 : Int) * 2 + 1)))))) /\ ((Plain (bCells j.2)) /\ ((Eq (α := List Value) (gC enW j.3) (List.take
  (List.length s.3 * 3) (List.drop 0 (gC enW s.3)) ++ [Value.string (cellS (gC enF g.1) (0 + Int.toNat (↑s.1 : Int) * 2)), Value.string (cellS (gC enF g.1) (0 + Int.toNat
  (↑s.1 : Int) * 2 + 1)), Value.int IntKind.i64 (3 : Int)])) /\ ((Plain (gC enW j.3)) /\ True)))))))))))))))))))))))))))) False) False))) False)))))))))))))))))))))))))
  False) ((Eq (α := Option Value) ((gC enF g.1)[0 + Int.toNat (↑s.1 : Int) * 2 + 0]?) (some (Value.string (cellS (gC enF g.1) (0 + Int.toNat (↑s.1 : Int) * 2 + 0))))) /\
  ((Value.string (cellS (gC enF g.1) (0 + Int.toNat (↑s.1 : Int) * 2 + 0)) = Value.string (cellS (gC enF g.1) (0 + Int.toNat (↑s.1 : Int) * 2 + 0))) /\ ((Value.int
  IntKind.u8 (IntKind.wrap IntKind.u8 (Int.ofNat (List.length (Array.toList (ByteArray.data (cellS (gC enF g.1) (0 + Int.toNat (↑s.1 : Int) * 2 + 0))))))) = Value.int
  IntKind.u8 (IntKind.wrap IntKind.u8 (Int.ofNat (List.length (Array.toList (ByteArray.data (cellS (gC enF g.1) (0 + Int.toNat (↑s.1 : Int) * 2 + 0)))))))) /\ ((Eq (α :=
  Option Value) ((gC enF g.1)[0 + Int.toNat (↑s.1 : Int) * 2 + 0]?) (some (Value.string (cellS (gC enF g.1) (0 + Int.toNat (↑s.1 : Int) * 2 + 0))))) /\ ((Value.string (cellS
  (gC enF g.1) (0 + Int.toNat (↑s.1 : Int) * 2 + 0)) = Value.string (cellS (gC enF g.1) (0 + Int.toNat (↑s.1 : Int) * 2 + 0))) /\ ((Eq (α := Option Value) ((gC enF g.1)[0 +
  Int.toNat (↑s.1 : Int) * 2 + 0]?) (some (Value.string (cellS (gC enF g.1) (0 + Int.toNat (↑s.1 : Int) * 2 + 0))))) /\ ((Value.string (cellS (gC enF g.1) (0 + Int.toNat
  (↑s.1 : Int) * 2 + 0)) = Value.string (cellS (gC enF g.1) (0 + Int.toNat (↑s.1 : Int) * 2 + 0))) /\ ((Eq (α := Option Value) ((gC enF g.1)[0 + Int.toNat (↑s.1 : Int) * 2 +
  1]?) (some (Value.string (cellS (gC enF g.1) (0 + Int.toNat (↑s.1 : Int) * 2 + 1))))) /\ ((Value.string (cellS (gC enF g.1) (0 + Int.toNat (↑s.1 : Int) * 2 + 1)) =
  Value.string (cellS (gC enF g.1) (0 + Int.toNat (↑s.1 : Int) * 2 + 1))) /\ ((Eq (α := Option Value) ((gC enF g.1)[0 + Int.toNat (↑s.1 : Int) * 2 + 1]?) (some (Value.string
  (cellS (gC enF g.1) (0 + Int.toNat (↑s.1 : Int) * 2 + 1))))) /\ ((Value.string (cellS (gC enF g.1) (0 + Int.toNat (↑s.1 : Int) * 2 + 1)) = Value.string (cellS (gC enF g.1)
  (0 + Int.toNat (↑s.1 : Int) * 2 + 1))) /\ ((Eq (α := Option Value) ((gC enF g.1)[0 + Int.toNat (↑s.1 : Int) * 2 + 1]?) (some (Value.string (cellS (gC enF g.1) (0 +
  Int.toNat (↑s.1 : Int) * 2 + 1))))) /\ ((Value.string (cellS (gC enF g.1) (0 + Int.toNat (↑s.1 : Int) * 2 + 1)) = Value.string (cellS (gC enF g.1) (0 + Int.toNat (↑s.1 :
  Int) * 2 + 1))) /\ ((Value.int IntKind.u8 (IntKind.wrap IntKind.u8 (Int.ofNat (List.length (Array.toList (ByteArray.data (cellS (gC enF g.1) (0 + Int.toNat (↑s.1 : Int) *
  2 + 1))))))) = Value.int IntKind.u8 (IntKind.wrap IntKind.u8 (Int.ofNat (List.length (Array.toList (ByteArray.data (cellS (gC enF g.1) (0 + Int.toNat (↑s.1 : Int) * 2 +
  1)))))))) /\ ((Value.int IntKind.u8 (IntKind.wrap IntKind.u8 (Int.ofNat (List.length (Array.toList (ByteArray.data (cellS (gC enF g.1) (0 + Int.toNat (↑s.1 : Int) * 2 +
  1))))))) = Value.int IntKind.u8 (IntKind.wrap IntKind.u8 (Int.ofNat (List.length (Array.toList (ByteArray.data (cellS (gC enF g.1) (0 + Int.toNat (↑s.1 : Int) * 2 +
  1)))))))) /\ ((Value.int IntKind.u8 (IntKind.wrap IntKind.u8 (Int.ofNat (List.length (Array.toList (ByteArray.data (cellS (gC enF g.1) (0 + Int.toNat (↑s.1 : Int) * 2 +
  1))))))) = Value.int IntKind.u8 (IntKind.wrap IntKind.u8 (Int.ofNat (List.length (Array.toList (ByteArray.data (cellS (gC enF g.1) (0 + Int.toNat (↑s.1 : Int) * 2 +
  1)))))))) /\ ((Eq (α := Option Value) ((gC enF g.1)[0 + Int.toNat (↑s.1 : Int) * 2 + 1]?) (some (Value.string (cellS (gC enF g.1) (0 + Int.toNat (↑s.1 : Int) * 2 + 1)))))
  /\ ((Value.string (cellS (gC enF g.1) (0 + Int.toNat (↑s.1 : Int) * 2 + 1)) = Value.string (cellS (gC enF g.1) (0 + Int.toNat (↑s.1 : Int) * 2 + 1))) /\ ((Eq (α := Option
  Value) ((gC enF g.1)[0 + Int.toNat (↑s.1 : Int) * 2 + 1]?) (some (Value.string (cellS (gC enF g.1) (0 + Int.toNat (↑s.1 : Int) * 2 + 1))))) /\ ((Value.string (cellS (gC
  enF g.1) (0 + Int.toNat (↑s.1 : Int) * 2 + 1)) = Value.string (cellS (gC enF g.1) (0 + Int.toNat (↑s.1 : Int) * 2 + 1))) /\ ((Eq (α := Option Value) ((gC enF g.1)[0 +
  Int.toNat (↑s.1 : Int) * 2 + 1]?) (some (Value.string (cellS (gC enF g.1) (0 + Int.toNat (↑s.1 : Int) * 2 + 1))))) /\ ((Value.string (cellS (gC enF g.1) (0 + Int.toNat
  (↑s.1 : Int) * 2 + 1)) = Value.string (cellS (gC enF g.1) (0 + Int.toNat (↑s.1 : Int) * 2 + 1))) /\ ((Eq (α := Option Value) ((gC enF g.1)[0 + Int.toNat (↑s.1 : Int) * 2 +
  1]?) (some (Value.string (cellS (gC enF g.1) (0 + Int.toNat (↑s.1 : Int) * 2 + 1))))) /\ ((Value.string (cellS (gC enF g.1) (0 + Int.toNat (↑s.1 : Int) * 2 + 1)) =
  Value.string (cellS (gC enF g.1) (0 + Int.toNat (↑s.1 : Int) * 2 + 1))) /\ (br (decide ((0 : Int) <= (↑s.1 : Int) /\ (↑s.1 : Int) < (↑(List.length g.1) : Int))) ((Eq (α :=
  Option Value) ((gC enF g.1)[0 + Int.toNat (↑s.1 : Int) * 2]?) (some (Value.string (cellS (gC enF g.1) (0 + Int.toNat (↑s.1 : Int) * 2))))) /\ ((Eq (α := Option Value) ((gC
  enF g.1)[0 + Int.toNat (↑s.1 : Int) * 2 + 1]?) (some (Value.string (cellS (gC enF g.1) (0 + Int.toNat (↑s.1 : Int) * 2 + 1))))) /\ (br (decide (List.length s.3 + 1 <=
  16777216)) (br (decide (0 + List.length s.3 * 3 <= List.length (gC enW s.3))) (∃ j : SN, ((Inv j) /\ ((m j < m s) /\ ((0 = 0) /\ ((List.length g.1 = List.length g.1) /\
  ((g.2 = g.2) /\ ((0 = 0) /\ ((0 = 0) /\ ((List.length j.2 = List.length s.2 + 2 + List.length (Array.toList (ByteArray.data (cellS (gC enF g.1) (0 + Int.toNat (↑s.1 : Int)
  * 2 + 0)))) + 1) /\ ((0 = 0) /\ ((List.length j.3 = List.length s.3 + 1) /\ (((↑j.1 : Int) = IntKind.wrap IntKind.i64 ((↑s.1 : Int) + (1 : Int))) /\ ((Eq (α := List Value)
  (gC enF g.1) (gC enF g.1)) /\ ((Plain (gC enF g.1)) /\ ((0 = 0) /\ (((4096 : Int) = (4096 : Int)) /\ (((2147483647 : Int) = (2147483647 : Int)) /\ ((false = false) /\ ((0
  = 0) /\ ((0 = 0) /\ (((0 : Int) = (0 : Int)) /\ (((4096 : Int) = (4096 : Int)) /\ ((Eq (α := List Value) ([]) ([])) /\ ((Plain []) /\ ((Eq (α := List Value) (bCells j.2)
  (List.take ((List.length s.2 + 2 + List.length (Array.toList (ByteArray.data (cellS (gC enF g.1) (0 + Int.toNat (↑s.1 : Int) * 2 + 0))))) * 1) (List.drop 0 (List.take
  ((List.length s.2 + 2) * 1) (List.drop 0 (List.take (List.length s.2 * 1) (List.drop 0 (bCells s.2)) ++ [Value.int IntKind.u8 (16 : Int), Value.int IntKind.u8
  (IntKind.wrap IntKind.u8 (Int.ofNat (List.length (Array.toList (ByteArray.data (cellS (gC enF g.1) (0 + Int.toNat (↑s.1 : Int) * 2 + 0)))))))])) ++ List.map (fun b ↦
  Value.int IntKind.u8 (↑(UInt8.toNat b) : Int)) (Array.toList (ByteArray.data (cellS (gC enF g.1) (0 + Int.toNat (↑s.1 : Int) * 2 + 0)))))) ++ [Value.int IntKind.u8
  (IntKind.wrap IntKind.u8 (Int.ofNat (List.length (Array.toList (ByteArray.data (cellS (gC enF g.1) (0 + Int.toNat (↑s.1 : Int) * 2 + 1)))))))])) /\ ((Plain (bCells j.2))
  /\ ((Eq (α := List Value) (gC enW j.3) (List.take (List.length s.3 * 3) (List.drop 0 (gC enW s.3)) ++ [Value.string (cellS (gC enF g.1) (0 + Int.toNat (↑s.1 : Int) * 2)),
  Value.string (cellS (gC enF g.1) (0 + Int.toNat (↑s.1 : Int) * 2 + 1)), Value.int IntKind.i64 (3 : Int)])) /\ ((Plain (gC enW j.3)) /\ True))))))))))))))))))))))))))))
  False) False))) False)))))))))))))))))))))))))) False) False)) False) False) False)) False) False) (br (decide ((0 : Int) <= (↑s.1 : Int) /\ (↑s.1 : Int) < (↑(List.length
  g.1) : Int))) ((Eq (α := Option Value) ((gC enF g.1)[0 + Int.toNat (↑s.1 : Int) * 2 + 1]?) (some (Value.string (cellS (gC enF g.1) (0 + Int.toNat (↑s.1 : Int) * 2 + 1)))))
  /\ (br (decide (List.length s.2 + 2 + 1 <= 16777216)) (br (decide (0 + (List.length s.2 + 2) * 1 <= List.length (List.take (List.length s.2 * 1) (List.drop 0 (bCells s.2))
  ++ [Value.int IntKind.u8 (16 : Int), Value.int IntKind.u8 (IntKind.wrap IntKind.u8 (Int.ofNat (List.length (Array.toList (ByteArray.data (cellS (gC enF g.1) (0 + Int.toNat
  (↑s.1 : Int) * 2 + 0)))))))]))) (br (decide ((0 : Int) <= (↑s.1 : Int) /\ (↑s.1 : Int) < (↑(List.length g.1) : Int))) ((Eq (α := Option Value) ((gC enF g.1)[0 + Int.toNat
  (↑s.1 : Int) * 2 + 1]?) (some (Value.string (cellS (gC enF g.1) (0 + Int.toNat (↑s.1 : Int) * 2 + 1))))) /\ (br (allOne (List.map (fun b ↦ Value.int IntKind.u8
  (↑(UInt8.toNat b) : Int)) (Array.toList (ByteArray.data (cellS (gC enF g.1) (0 + Int.toNat (↑s.1 : Int) * 2 + 1)))))) (br (decide (List.length s.2 + 2 + 1 + List.length
  (Array.toList (ByteArray.data (cellS (gC enF g.1) (0 + Int.toNat (↑s.1 : Int) * 2 + 1)))) <= 16777216)) (br (decide (0 < List.length s.2 + 2 + 1 + List.length
  (Array.toList (ByteArray.data (cellS (gC enF g.1) (0 + Int.toNat (↑s.1 : Int) * 2 + 1)))) ∨ List.length (List.take ((List.length s.2 + 2) * 1) (List.drop 0 (List.take
  (List.length s.2 * 1) (List.drop 0 (bCells s.2)) ++ [Value.int IntKind.u8 (16 : Int), Value.int IntKind.u8 (IntKind.wrap IntKind.u8 (Int.ofNat (List.length (Array.toList
  (ByteArray.data (cellS (gC enF g.1) (0 + Int.toNat (↑s.1 : Int) * 2 + 0)))))))])) ++ [Value.int IntKind.u8 (IntKind.wrap IntKind.u8 (Int.ofNat (List.length (Array.toList
  (ByteArray.data (cellS (gC enF g.1) (0 + Int.toNat (↑s.1 : Int) * 2 + 1)))))))]) = 0)) (br (decide (0 + (List.length s.2 + 2 + 1) * 1 <= List.length (List.take
  ((List.length s.2 + 2) * 1) (List.drop 0 (List.take (List.length s.2 * 1) (List.drop 0 (bCells s.2)) ++ [Value.int IntKind.u8 (16 : Int), Value.int IntKind.u8
  (IntKind.wrap IntKind.u8 (Int.ofNat (List.length (Array.toList (ByteArray.data (cellS (gC enF g.1) (0 + Int.toNat (↑s.1 : Int) * 2 + 0)))))))])) ++ [Value.int IntKind.u8
  (IntKind.wrap IntKind.u8 (Int.ofNat (List.length (Array.toList (ByteArray.data (cellS (gC enF g.1) (0 + Int.toNat (↑s.1 : Int) * 2 + 1)))))))]))) ((Eq (α := Option Value)
  ((gC enF g.1)[0 + Int.toNat (↑s.1 : Int) * 2 + 0]?) (some (Value.string (cellS (gC enF g.1) (0 + Int.toNat (↑s.1 : Int) * 2 + 0))))) /\ ((Value.string (cellS (gC enF g.1)
  (0 + Int.toNat (↑s.1 : Int) * 2 + 0)) = Value.string (cellS (gC enF g.1) (0 + Int.toNat (↑s.1 : Int) * 2 + 0))) /\ ((Value.int IntKind.u8 (IntKind.wrap IntKind.u8
  (Int.ofNat (List.length (Array.toList (ByteArray.data (cellS (gC enF g.1) (0 + Int.toNat (↑s.1 : Int) * 2 + 0))))))) = Value.int IntKind.u8 (IntKind.wrap IntKind.u8
  (Int.ofNat (List.length (Array.toList (ByteArray.data (cellS (gC enF g.1) (0 + Int.toNat (↑s.1 : Int) * 2 + 0)))))))) /\ ((Eq (α := Option Value) ((gC enF g.1)[0 +
  Int.toNat (↑s.1 : Int) * 2 + 0]?) (some (Value.string (cellS (gC enF g.1) (0 + Int.toNat (↑s.1 : Int) * 2 + 0))))) /\ ((Value.string (cellS (gC enF g.1) (0 + Int.toNat
  (↑s.1 : Int) * 2 + 0)) = Value.string (cellS (gC enF g.1) (0 + Int.toNat (↑s.1 : Int) * 2 + 0))) /\ ((Eq (α := Option Value) ((gC enF g.1)[0 + Int.toNat (↑s.1 : Int) * 2 +
  0]?) (some (Value.string (cellS (gC enF g.1) (0 + Int.toNat (↑s.1 : Int) * 2 + 0))))) /\ ((Value.string (cellS (gC enF g.1) (0 + Int.toNat (↑s.1 : Int) * 2 + 0)) =
  Value.string (cellS (gC enF g.1) (0 + Int.toNat (↑s.1 : Int) * 2 + 0))) /\ ((Eq (α := Option Value) ((gC enF g.1)[0 + Int.toNat (↑s.1 : Int) * 2 + 1]?) (some (Value.string
  (cellS (gC enF g.1) (0 + Int.toNat (↑s.1 : Int) * 2 + 1))))) /\ ((Value.string (cellS (gC enF g.1) (0 + Int.toNat (↑s.1 : Int) * 2 + 1)) = Value.string (cellS (gC enF g.1)
  (0 + Int.toNat (↑s.1 : Int) * 2 + 1))) /\ ((Eq (α := Option Value) ((gC enF g.1)[0 + Int.toNat (↑s.1 : Int) * 2 + 1]?) (some (Value.string (cellS (gC enF g.1) (0 +
  Int.toNat (↑s.1 : Int) * 2 + 1))))) /\ ((Value.string (cellS (gC enF g.1) (0 + Int.toNat (↑s.1 : Int) * 2 + 1)) = Value.string (cellS (gC enF g.1) (0 + Int.toNat (↑s.1 :
  Int) * 2 + 1))) /\ ((Eq (α := Option Value) ((gC enF g.1)[0 + Int.toNat (↑s.1 : Int) * 2 + 1]?) (some (Value.string (cellS (gC enF g.1) (0 + Int.toNat (↑s.1 : Int) * 2 +
  1))))) /\ ((Value.string (cellS (gC enF g.1) (0 + Int.toNat (↑s.1 : Int) * 2 + 1)) = Value.string (cellS (gC enF g.1) (0 + Int.toNat (↑s.1 : Int) * 2 + 1))) /\ ((Value.int
  IntKind.u8 (IntKind.wrap IntKind.u8 (Int.ofNat (List.length (Array.toList (ByteArray.data (cellS (gC enF g.1) (0 + Int.toNat (↑s.1 : Int) * 2 + 1))))))) = Value.int
  IntKind.u8 (IntKind.wrap IntKind.u8 (Int.ofNat (List.length (Array.toList (ByteArray.data (cellS (gC enF g.1) (0 + Int.toNat (↑s.1 : Int) * 2 + 1)))))))) /\ ((Value.int
  IntKind.u8 (IntKind.wrap IntKind.u8 (Int.ofNat (List.length (Array.toList (ByteArray.data (cellS (gC enF g.1) (0 + Int.toNat (↑s.1 : Int) * 2 + 1))))))) = Value.int
  IntKind.u8 (IntKind.wrap IntKind.u8 (Int.ofNat (List.length (Array.toList (ByteArray.data (cellS (gC enF g.1) (0 + Int.toNat (↑s.1 : Int) * 2 + 1)))))))) /\ ((Value.int
  IntKind.u8 (IntKind.wrap IntKind.u8 (Int.ofNat (List.length (Array.toList (ByteArray.data (cellS (gC enF g.1) (0 + Int.toNat (↑s.1 : Int) * 2 + 1))))))) = Value.int
  IntKind.u8 (IntKind.wrap IntKind.u8 (Int.ofNat (List.length (Array.toList (ByteArray.data (cellS (gC enF g.1) (0 + Int.toNat (↑s.1 : Int) * 2 + 1)))))))) /\ ((Eq (α :=
  Option Value) ((gC enF g.1)[0 + Int.toNat (↑s.1 : Int) * 2 + 1]?) (some (Value.string (cellS (gC enF g.1) (0 + Int.toNat (↑s.1 : Int) * 2 + 1))))) /\ ((Value.string (cellS
  (gC enF g.1) (0 + Int.toNat (↑s.1 : Int) * 2 + 1)) = Value.string (cellS (gC enF g.1) (0 + Int.toNat (↑s.1 : Int) * 2 + 1))) /\ ((Eq (α := Option Value) ((gC enF g.1)[0 +
  Int.toNat (↑s.1 : Int) * 2 + 1]?) (some (Value.string (cellS (gC enF g.1) (0 + Int.toNat (↑s.1 : Int) * 2 + 1))))) /\ ((Value.string (cellS (gC enF g.1) (0 + Int.toNat
  (↑s.1 : Int) * 2 + 1)) = Value.string (cellS (gC enF g.1) (0 + Int.toNat (↑s.1 : Int) * 2 + 1))) /\ ((Eq (α := Option Value) ((gC enF g.1)[0 + Int.toNat (↑s.1 : Int) * 2 +
  1]?) (some (Value.string (cellS (gC enF g.1) (0 + Int.toNat (↑s.1 : Int) * 2 + 1))))) /\ ((Value.string (cellS (gC enF g.1) (0 + Int.toNat (↑s.1 : Int) * 2 + 1)) =
  Value.string (cellS (gC enF g.1) (0 + Int.toNat (↑s.1 : Int) * 2 + 1))) /\ ((Eq (α := Option Value) ((gC enF g.1)[0 + Int.toNat (↑s.1 : Int) * 2 + 1]?) (some (Value.string
  (cellS (gC enF g.1) (0 + Int.toNat (↑s.1 : Int) * 2 + 1))))) /\ ((Value.string (cellS (gC enF g.1) (0 + Int.toNat (↑s.1 : Int) * 2 + 1)) = Value.string (cellS (gC enF g.1)
  (0 + Int.toNat (↑s.1 : Int) * 2 + 1))) /\ (br (decide ((0 : Int) <= (↑s.1 : Int) /\ (↑s.1 : Int) < (↑(List.length g.1) : Int))) ((Eq (α := Option Value) ((gC enF g.1)[0 +
  Int.toNat (↑s.1 : Int) * 2]?) (some (Value.string (cellS (gC enF g.1) (0 + Int.toNat (↑s.1 : Int) * 2))))) /\ ((Eq (α := Option Value) ((gC enF g.1)[0 + Int.toNat (↑s.1 :
  Int) * 2 + 1]?) (some (Value.string (cellS (gC enF g.1) (0 + Int.toNat (↑s.1 : Int) * 2 + 1))))) /\ (br (decide (List.length s.3 + 1 <= 16777216)) (br (decide (0 +
  List.length s.3 * 3 <= List.length (gC enW s.3))) (∃ j : SN, ((Inv j) /\ ((m j < m s) /\ ((0 = 0) /\ ((List.length g.1 = List.length g.1) /\ ((g.2 = g.2) /\ ((0 = 0) /\
  ((0 = 0) /\ ((List.length j.2 = List.length s.2 + 2 + 1 + List.length (Array.toList (ByteArray.data (cellS (gC enF g.1) (0 + Int.toNat (↑s.1 : Int) * 2 + 1))))) /\ ((0 =
  0) /\ ((List.length j.3 = List.length s.3 + 1) /\ (((↑j.1 : Int) = IntKind.wrap IntKind.i64 ((↑s.1 : Int) + (1 : Int))) /\ ((Eq (α := List Value) (gC enF g.1) (gC enF
  g.1)) /\ ((Plain (gC enF g.1)) /\ ((0 = 0) /\ (((4096 : Int) = (4096 : Int)) /\ (((2147483647 : Int) = (2147483647 : Int)) /\ ((false = false) /\ ((0 = 0) /\ ((0 = 0) /\
  (((0 : Int) = (0 : Int)) /\ (((4096 : Int) = (4096 : Int)) /\ ((Eq (α := List Value) ([]) ([])) /\ ((Plain []) /\ ((Eq (α := List Value) (bCells j.2) (List.take
  ((List.length s.2 + 2 + 1) * 1) (List.drop 0 (List.take ((List.length s.2 + 2) * 1) (List.drop 0 (List.take (List.length s.2 * 1) (List.drop 0 (bCells s.2)) ++ [Value.int
  IntKind.u8 (16 : Int), Value.int IntKind.u8 (IntKind.wrap IntKind.u8 (Int.ofNat (List.length (Array.toList (ByteArray.data (cellS (gC enF g.1) (0 + Int.toNat (↑s.1 : Int)
  * 2 + 0)))))))])) ++ [Value.int IntKind.u8 (IntKind.wrap IntKind.u8 (Int.ofNat (List.length (Array.toList (ByteArray.data (cellS (gC enF g.1) (0 + Int.toNat (↑s.1 : Int) *
  2 + 1)))))))])) ++ List.map (fun b ↦ Value.int IntKind.u8 (↑(UInt8.toNat b) : Int)) (Array.toList (ByteArray.data (cellS (gC enF g.1) (0 + Int.toNat (↑s.1 : Int) * 2 +
  1)))))) /\ ((Plain (bCells j.2)) /\ ((Eq (α := List Value) (gC enW j.3) (List.take (List.length s.3 * 3) (List.drop 0 (gC enW s.3)) ++ [Value.string (cellS (gC enF g.1) (0
  + Int.toNat (↑s.1 : Int) * 2)), Value.string (cellS (gC enF g.1) (0 + Int.toNat (↑s.1 : Int) * 2 + 1)), Value.int IntKind.i64 (3 : Int)])) /\ ((Plain (gC enW j.3)) /\
  True)))))))))))))))))))))))))))) False) False))) False))))))))))))))))))))))))) False) ((Eq (α := Option Value) ((gC enF g.1)[0 + Int.toNat (↑s.1 : Int) * 2 + 0]?) (some
  (Value.string (cellS (gC enF g.1) (0 + Int.toNat (↑s.1 : Int) * 2 + 0))))) /\ ((Value.string (cellS (gC enF g.1) (0 + Int.toNat (↑s.1 : Int) * 2 + 0)) = Value.string
  (cellS (gC enF g.1) (0 + Int.toNat (↑s.1 : Int) * 2 + 0))) /\ ((Value.int IntKind.u8 (IntKind.wrap IntKind.u8 (Int.ofNat (List.length (Array.toList (ByteArray.data (cellS
  (gC enF g.1) (0 + Int.toNat (↑s.1 : Int) * 2 + 0))))))) = Value.int IntKind.u8 (IntKind.wrap IntKind.u8 (Int.ofNat (List.length (Array.toList (ByteArray.data (cellS (gC
  enF g.1) (0 + Int.toNat (↑s.1 : Int) * 2 + 0)))))))) /\ ((Eq (α := Option Value) ((gC enF g.1)[0 + Int.toNat (↑s.1 : Int) * 2 + 0]?) (some (Value.string (cellS (gC enF
  g.1) (0 + Int.toNat (↑s.1 : Int) * 2 + 0))))) /\ ((Value.string (cellS (gC enF g.1) (0 + Int.toNat (↑s.1 : Int) * 2 + 0)) = Value.string (cellS (gC enF g.1) (0 + Int.toNat
  (↑s.1 : Int) * 2 + 0))) /\ ((Eq (α := Option Value) ((gC enF g.1)[0 + Int.toNat (↑s.1 : Int) * 2 + 0]?) (some (Value.string (cellS (gC enF g.1) (0 + Int.toNat (↑s.1 : Int)
  * 2 + 0))))) /\ ((Value.string (cellS (gC enF g.1) (0 + Int.toNat (↑s.1 : Int) * 2 + 0)) = Value.string (cellS (gC enF g.1) (0 + Int.toNat (↑s.1 : Int) * 2 + 0))) /\ ((Eq
  (α := Option Value) ((gC enF g.1)[0 + Int.toNat (↑s.1 : Int) * 2 + 1]?) (some (Value.string (cellS (gC enF g.1) (0 + Int.toNat (↑s.1 : Int) * 2 + 1))))) /\ ((Value.string
  (cellS (gC enF g.1) (0 + Int.toNat (↑s.1 : Int) * 2 + 1)) = Value.string (cellS (gC enF g.1) (0 + Int.toNat (↑s.1 : Int) * 2 + 1))) /\ ((Eq (α := Option Value) ((gC enF
  g.1)[0 + Int.toNat (↑s.1 : Int) * 2 + 1]?) (some (Value.string (cellS (gC enF g.1) (0 + Int.toNat (↑s.1 : Int) * 2 + 1))))) /\ ((Value.string (cellS (gC enF g.1) (0 +
  Int.toNat (↑s.1 : Int) * 2 + 1)) = Value.string (cellS (gC enF g.1) (0 + Int.toNat (↑s.1 : Int) * 2 + 1))) /\ ((Eq (α := Option Value) ((gC enF g.1)[0 + Int.toNat (↑s.1 :
  Int) * 2 + 1]?) (some (Value.string (cellS (gC enF g.1) (0 + Int.toNat (↑s.1 : Int) * 2 + 1))))) /\ ((Value.string (cellS (gC enF g.1) (0 + Int.toNat (↑s.1 : Int) * 2 +
  1)) = Value.string (cellS (gC enF g.1) (0 + Int.toNat (↑s.1 : Int) * 2 + 1))) /\ ((Value.int IntKind.u8 (IntKind.wrap IntKind.u8 (Int.ofNat (List.length (Array.toList
  (ByteArray.data (cellS (gC enF g.1) (0 + Int.toNat (↑s.1 : Int) * 2 + 1))))))) = Value.int IntKind.u8 (IntKind.wrap IntKind.u8 (Int.ofNat (List.length (Array.toList
  (ByteArray.data (cellS (gC enF g.1) (0 + Int.toNat (↑s.1 : Int) * 2 + 1)))))))) /\ ((Value.int IntKind.u8 (IntKind.wrap IntKind.u8 (Int.ofNat (List.length (Array.toList
  (ByteArray.data (cellS (gC enF g.1) (0 + Int.toNat (↑s.1 : Int) * 2 + 1))))))) = Value.int IntKind.u8 (IntKind.wrap IntKind.u8 (Int.ofNat (List.length (Array.toList
  (ByteArray.data (cellS (gC enF g.1) (0 + Int.toNat (↑s.1 : Int) * 2 + 1)))))))) /\ ((Value.int IntKind.u8 (IntKind.wrap IntKind.u8 (Int.ofNat (List.length (Array.toList
  (ByteArray.data (cellS (gC enF g.1) (0 + Int.toNat (↑s.1 : Int) * 2 + 1))))))) = Value.int IntKind.u8 (IntKind.wrap IntKind.u8 (Int.ofNat (List.length (Array.toList
  (ByteArray.data (cellS (gC enF g.1) (0 + Int.toNat (↑s.1 : Int) * 2 + 1)))))))) /\ ((Eq (α := Option Value) ((gC enF g.1)[0 + Int.toNat (↑s.1 : Int) * 2 + 1]?) (some
  (Value.string (cellS (gC enF g.1) (0 + Int.toNat (↑s.1 : Int) * 2 + 1))))) /\ ((Value.string (cellS (gC enF g.1) (0 + Int.toNat (↑s.1 : Int) * 2 + 1)) = Value.string
  (cellS (gC enF g.1) (0 + Int.toNat (↑s.1 : Int) * 2 + 1))) /\ ((Eq (α := Option Value) ((gC enF g.1)[0 + Int.toNat (↑s.1 : Int) * 2 + 1]?) (some (Value.string (cellS (gC
  enF g.1) (0 + Int.toNat (↑s.1 : Int) * 2 + 1))))) /\ ((Value.string (cellS (gC enF g.1) (0 + Int.toNat (↑s.1 : Int) * 2 + 1)) = Value.string (cellS (gC enF g.1) (0 +
  Int.toNat (↑s.1 : Int) * 2 + 1))) /\ ((Eq (α := Option Value) ((gC enF g.1)[0 + Int.toNat (↑s.1 : Int) * 2 + 1]?) (some (Value.string (cellS (gC enF g.1) (0 + Int.toNat
  (↑s.1 : Int) * 2 + 1))))) /\ ((Value.string (cellS (gC enF g.1) (0 + Int.toNat (↑s.1 : Int) * 2 + 1)) = Value.string (cellS (gC enF g.1) (0 + Int.toNat (↑s.1 : Int) * 2 +
  1))) /\ ((Eq (α := Option Value) ((gC enF g.1)[0 + Int.toNat (↑s.1 : Int) * 2 + 1]?) (some (Value.string (cellS (gC enF g.1) (0 + Int.toNat (↑s.1 : Int) * 2 + 1))))) /\
  ((Value.string (cellS (gC enF g.1) (0 + Int.toNat (↑s.1 : Int) * 2 + 1)) = Value.string (cellS (gC enF g.1) (0 + Int.toNat (↑s.1 : Int) * 2 + 1))) /\ (br (decide ((0 :
  Int) <= (↑s.1 : Int) /\ (↑s.1 : Int) < (↑(List.length g.1) : Int))) ((Eq (α := Option Value) ((gC enF g.1)[0 + Int.toNat (↑s.1 : Int) * 2]?) (some (Value.string (cellS (gC
  enF g.1) (0 + Int.toNat (↑s.1 : Int) * 2))))) /\ ((Eq (α := Option Value) ((gC enF g.1)[0 + Int.toNat (↑s.1 : Int) * 2 + 1]?) (some (Value.string (cellS (gC enF g.1) (0 +
  Int.toNat (↑s.1 : Int) * 2 + 1))))) /\ (br (decide (List.length s.3 + 1 <= 16777216)) (br (decide (0 + List.length s.3 * 3 <= List.length (gC enW s.3))) (∃ j : SN, ((Inv
  j) /\ ((m j < m s) /\ ((0 = 0) /\ ((List.length g.1 = List.length g.1) /\ ((g.2 = g.2) /\ ((0 = 0) /\ ((0 = 0) /\ ((List.length j.2 = List.length s.2 + 2 + 1) /\ ((0 = 0)
  /\ ((List.length j.3 = List.length s.3 + 1) /\ (((↑j.1 : Int) = IntKind.wrap IntKind.i64 ((↑s.1 : Int) + (1 : Int))) /\ ((Eq (α := List Value) (gC enF g.1) (gC enF g.1))
  /\ ((Plain (gC enF g.1)) /\ ((0 = 0) /\ (((4096 : Int) = (4096 : Int)) /\ (((2147483647 : Int) = (2147483647 : Int)) /\ ((false = false) /\ ((0 = 0) /\ ((0 = 0) /\ (((0 :
  Int) = (0 : Int)) /\ (((4096 : Int) = (4096 : Int)) /\ ((Eq (α := List Value) ([]) ([])) /\ ((Plain []) /\ ((Eq (α := List Value) (bCells j.2) (List.take ((List.length s.2
  + 2) * 1) (List.drop 0 (List.take (List.length s.2 * 1) (List.drop 0 (bCells s.2)) ++ [Value.int IntKind.u8 (16 : Int), Value.int IntKind.u8 (IntKind.wrap IntKind.u8
  (Int.ofNat (List.length (Array.toList (ByteArray.data (cellS (gC enF g.1) (0 + Int.toNat (↑s.1 : Int) * 2 + 0)))))))])) ++ [Value.int IntKind.u8 (IntKind.wrap IntKind.u8
  (Int.ofNat (List.length (Array.toList (ByteArray.data (cellS (gC enF g.1) (0 + Int.toNat (↑s.1 : Int) * 2 + 1)))))))])) /\ ((Plain (bCells j.2)) /\ ((Eq (α := List Value)
  (gC enW j.3) (List.take (List.length s.3 * 3) (List.drop 0 (gC enW s.3)) ++ [Value.string (cellS (gC enF g.1) (0 + Int.toNat (↑s.1 : Int) * 2)), Value.string (cellS (gC
  enF g.1) (0 + Int.toNat (↑s.1 : Int) * 2 + 1)), Value.int IntKind.i64 (3 : Int)])) /\ ((Plain (gC enW j.3)) /\ True)))))))))))))))))))))))))))) False) False)))
  False)))))))))))))))))))))))))) False) False)) False) False) False)) False)) False) False)) False) False) False)) False) (br (decide ((0 : Int) <= (↑s.1 : Int) /\ (↑s.1 :
  Int) < (↑(List.length g.1) : Int))) ((Eq (α := Option Value) ((gC enF g.1)[0 + Int.toNat (↑s.1 : Int) * 2 + 0]?) (some (Value.string (cellS (gC enF g.1) (0 + Int.toNat
  (↑s.1 : Int) * 2 + 0))))) /\ (br (decide (List.length s.2 + 2 <= 16777216)) (br (decide (0 + List.length s.2 * 1 <= List.length (bCells s.2))) (br (decide ((0 : Int) <=
  (↑s.1 : Int) /\ (↑s.1 : Int) < (↑(List.length g.1) : Int))) ((Eq (α := Option Value) ((gC enF g.1)[0 + Int.toNat (↑s.1 : Int) * 2 + 0]?) (some (Value.string (cellS (gC enF
  g.1) (0 + Int.toNat (↑s.1 : Int) * 2 + 0))))) /\ (br (allOne (List.map (fun b ↦ Value.int IntKind.u8 (↑(UInt8.toNat b) : Int)) (Array.toList (ByteArray.data (cellS (gC enF
  g.1) (0 + Int.toNat (↑s.1 : Int) * 2 + 0)))))) (br (decide (List.length s.2 + 2 + List.length (Array.toList (ByteArray.data (cellS (gC enF g.1) (0 + Int.toNat (↑s.1 : Int)
  * 2 + 0)))) <= 16777216)) (br (decide (0 < List.length s.2 + 2 + List.length (Array.toList (ByteArray.data (cellS (gC enF g.1) (0 + Int.toNat (↑s.1 : Int) * 2 + 0)))) ∨
  List.length (List.take (List.length s.2 * 1) (List.drop 0 (bCells s.2)) ++ [Value.int IntKind.u8 (0 : Int), Value.int IntKind.u8 (IntKind.wrap IntKind.u8 (Int.ofNat
  (List.length (Array.toList (ByteArray.data (cellS (gC enF g.1) (0 + Int.toNat (↑s.1 : Int) * 2 + 0)))))))]) = 0)) (br (decide (0 + (List.length s.2 + 2) * 1 <= List.length
  (List.take (List.length s.2 * 1) (List.drop 0 (bCells s.2)) ++ [Value.int IntKind.u8 (0 : Int), Value.int IntKind.u8 (IntKind.wrap IntKind.u8 (Int.ofNat (List.length
  (Array.toList (ByteArray.data (cellS (gC enF g.1) (0 + Int.toNat (↑s.1 : Int) * 2 + 0)))))))]))) (br (decide ((0 : Int) <= (↑s.1 : Int) /\ (↑s.1 : Int) < (↑(List.length
  g.1) : Int))) ((Eq (α := Option Value) ((gC enF g.1)[0 + Int.toNat (↑s.1 : Int) * 2 + 1]?) (some (Value.string (cellS (gC enF g.1) (0 + Int.toNat (↑s.1 : Int) * 2 + 1)))))
  /\ (br (decide (List.length s.2 + 2 + List.length (Array.toList (ByteArray.data (cellS (gC enF g.1) (0 + Int.toNat (↑s.1 : Int) * 2 + 0)))) + 1 <= 16777216)) (br (decide
  (0 + (List.length s.2 + 2 + List.length (Array.toList (ByteArray.data (cellS (gC enF g.1) (0 + Int.toNat (↑s.1 : Int) * 2 + 0))))) * 1 <= List.length (List.take
  ((List.length s.2 + 2) * 1) (List.drop 0 (List.take (List.length s.2 * 1) (List.drop 0 (bCells s.2)) ++ [Value.int IntKind.u8 (0 : Int), Value.int IntKind.u8 (IntKind.wrap
  IntKind.u8 (Int.ofNat (List.length (Array.toList (ByteArray.data (cellS (gC enF g.1) (0 + Int.toNat (↑s.1 : Int) * 2 + 0)))))))])) ++ List.map (fun b ↦ Value.int
  IntKind.u8 (↑(UInt8.toNat b) : Int)) (Array.toList (ByteArray.data (cellS (gC enF g.1) (0 + Int.toNat (↑s.1 : Int) * 2 + 0))))))) (br (decide ((0 : Int) <= (↑s.1 : Int) /\
  (↑s.1 : Int) < (↑(List.length g.1) : Int))) ((Eq (α := Option Value) ((gC enF g.1)[0 + Int.toNat (↑s.1 : Int) * 2 + 1]?) (some (Value.string (cellS (gC enF g.1) (0 +
  Int.toNat (↑s.1 : Int) * 2 + 1))))) /\ (br (allOne (List.map (fun b ↦ Value.int IntKind.u8 (↑(UInt8.toNat b) : Int)) (Array.toList (ByteArray.data (cellS (gC enF g.1) (0 +
  Int.toNat (↑s.1 : Int) * 2 + 1)))))) (br (decide (List.length s.2 + 2 + List.length (Array.toList (ByteArray.data (cellS (gC enF g.1) (0 + Int.toNat (↑s.1 : Int) * 2 +
  0)))) + 1 + List.length (Array.toList (ByteArray.data (cellS (gC enF g.1) (0 + Int.toNat (↑s.1 : Int) * 2 + 1)))) <= 16777216)) (br (decide (0 < List.length s.2 + 2 +
  List.length (Array.toList (ByteArray.data (cellS (gC enF g.1) (0 + Int.toNat (↑s.1 : Int) * 2 + 0)))) + 1 + List.length (Array.toList (ByteArray.data (cellS (gC enF g.1)
  (0 + Int.toNat (↑s.1 : Int) * 2 + 1)))) ∨ List.length (List.take ((List.length s.2 + 2 + List.length (Array.toList (ByteArray.data (cellS (gC enF g.1) (0 + Int.toNat (↑s.1
  : Int) * 2 + 0))))) * 1) (List.drop 0 (List.take ((List.length s.2 + 2) * 1) (List.drop 0 (List.take (List.length s.2 * 1) (List.drop 0 (bCells s.2)) ++ [Value.int
  IntKind.u8 (0 : Int), Value.int IntKind.u8 (IntKind.wrap IntKind.u8 (Int.ofNat (List.length (Array.toList (ByteArray.data (cellS (gC enF g.1) (0 + Int.toNat (↑s.1 : Int) *
  2 + 0)))))))])) ++ List.map (fun b ↦ Value.int IntKind.u8 (↑(UInt8.toNat b) : Int)) (Array.toList (ByteArray.data (cellS (gC enF g.1) (0 + Int.toNat (↑s.1 : Int) * 2 +
  0)))))) ++ [Value.int IntKind.u8 (IntKind.wrap IntKind.u8 (Int.ofNat (List.length (Array.toList (ByteArray.data (cellS (gC enF g.1) (0 + Int.toNat (↑s.1 : Int) * 2 +
  1)))))))]) = 0)) (br (decide (0 + (List.length s.2 + 2 + List.length (Array.toList (ByteArray.data (cellS (gC enF g.1) (0 + Int.toNat (↑s.1 : Int) * 2 + 0)))) + 1) * 1 <=
  List.length (List.take ((List.length s.2 + 2 + List.length (Array.toList (ByteArray.data (cellS (gC enF g.1) (0 + Int.toNat (↑s.1 : Int) * 2 + 0))))) * 1) (List.drop 0
  (List.take ((List.length s.2 + 2) * 1) (List.drop 0 (List.take (List.length s.2 * 1) (List.drop 0 (bCells s.2)) ++ [Value.int IntKind.u8 (0 : Int), Value.int IntKind.u8
  (IntKind.wrap IntKind.u8 (Int.ofNat (List.length (Array.toList (ByteArray.data (cellS (gC enF g.1) (0 + Int.toNat (↑s.1 : Int) * 2 + 0)))))))])) ++ List.map (fun b ↦
  Value.int IntKind.u8 (↑(UInt8.toNat b) : Int)) (Array.toList (ByteArray.data (cellS (gC enF g.1) (0 + Int.toNat (↑s.1 : Int) * 2 + 0)))))) ++ [Value.int IntKind.u8
  (IntKind.wrap IntKind.u8 (Int.ofNat (List.length (Array.toList (ByteArray.data (cellS (gC enF g.1) (0 + Int.toNat (↑s.1 : Int) * 2 + 1)))))))]))) ((Eq (α := Option Value)
  ((gC enF g.1)[0 + Int.toNat (↑s.1 : Int) * 2 + 0]?) (some (Value.string (cellS (gC enF g.1) (0 + Int.toNat (↑s.1 : Int) * 2 + 0))))) /\ ((Value.string (cellS (gC enF g.1)
  (0 + Int.toNat (↑s.1 : Int) * 2 + 0)) = Value.string (cellS (gC enF g.1) (0 + Int.toNat (↑s.1 : Int) * 2 + 0))) /\ ((Value.int IntKind.u8 (IntKind.wrap IntKind.u8
  (Int.ofNat (List.length (Array.toList (ByteArray.data (cellS (gC enF g.1) (0 + Int.toNat (↑s.1 : Int) * 2 + 0))))))) = Value.int IntKind.u8 (IntKind.wrap IntKind.u8
  (Int.ofNat (List.length (Array.toList (ByteArray.data (cellS (gC enF g.1) (0 + Int.toNat (↑s.1 : Int) * 2 + 0)))))))) /\ ((Eq (α := Option Value) ((gC enF g.1)[0 +
  Int.toNat (↑s.1 : Int) * 2 + 0]?) (some (Value.string (cellS (gC enF g.1) (0 + Int.toNat (↑s.1 : Int) * 2 + 0))))) /\ ((Value.string (cellS (gC enF g.1) (0 + Int.toNat
  (↑s.1 : Int) * 2 + 0)) = Value.string (cellS (gC enF g.1) (0 + Int.toNat (↑s.1 : Int) * 2 + 0))) /\ ((Eq (α := Option Value) ((gC enF g.1)[0 + Int.toNat (↑s.1 : Int) * 2 +
  0]?) (some (Value.string (cellS (gC enF g.1) (0 + Int.toNat (↑s.1 : Int) * 2 + 0))))) /\ ((Value.string (cellS (gC enF g.1) (0 + Int.toNat (↑s.1 : Int) * 2 + 0)) =
  Value.string (cellS (gC enF g.1) (0 + Int.toNat (↑s.1 : Int) * 2 + 0))) /\ ((Eq (α := Option Value) ((gC enF g.1)[0 + Int.toNat (↑s.1 : Int) * 2 + 1]?) (some (Value.string
  (cellS (gC enF g.1) (0 + Int.toNat (↑s.1 : Int) * 2 + 1))))) /\ ((Value.string (cellS (gC enF g.1) (0 + Int.toNat (↑s.1 : Int) * 2 + 1)) = Value.string (cellS (gC enF g.1)
  (0 + Int.toNat (↑s.1 : Int) * 2 + 1))) /\ ((Eq (α := Option Value) ((gC enF g.1)[0 + Int.toNat (↑s.1 : Int) * 2 + 1]?) (some (Value.string (cellS (gC enF g.1) (0 +
  Int.toNat (↑s.1 : Int) * 2 + 1))))) /\ ((Value.string (cellS (gC enF g.1) (0 + Int.toNat (↑s.1 : Int) * 2 + 1)) = Value.string (cellS (gC enF g.1) (0 + Int.toNat (↑s.1 :
  Int) * 2 + 1))) /\ ((Eq (α := Option Value) ((gC enF g.1)[0 + Int.toNat (↑s.1 : Int) * 2 + 1]?) (some (Value.string (cellS (gC enF g.1) (0 + Int.toNat (↑s.1 : Int) * 2 +
  1))))) /\ ((Value.string (cellS (gC enF g.1) (0 + Int.toNat (↑s.1 : Int) * 2 + 1)) = Value.string (cellS (gC enF g.1) (0 + Int.toNat (↑s.1 : Int) * 2 + 1))) /\ ((Value.int
  IntKind.u8 (IntKind.wrap IntKind.u8 (Int.ofNat (List.length (Array.toList (ByteArray.data (cellS (gC enF g.1) (0 + Int.toNat (↑s.1 : Int) * 2 + 1))))))) = Value.int
  IntKind.u8 (IntKind.wrap IntKind.u8 (Int.ofNat (List.length (Array.toList (ByteArray.data (cellS (gC enF g.1) (0 + Int.toNat (↑s.1 : Int) * 2 + 1)))))))) /\ ((Value.int
  IntKind.u8 (IntKind.wrap IntKind.u8 (Int.ofNat (List.length (Array.toList (ByteArray.data (cellS (gC enF g.1) (0 + Int.toNat (↑s.1 : Int) * 2 + 1))))))) = Value.int
  IntKind.u8 (IntKind.wrap IntKind.u8 (Int.ofNat (List.length (Array.toList (ByteArray.data (cellS (gC enF g.1) (0 + Int.toNat (↑s.1 : Int) * 2 + 1)))))))) /\ ((Value.int
  IntKind.u8 (IntKind.wrap IntKind.u8 (Int.ofNat (List.length (Array.toList (ByteArray.data (cellS (gC enF g.1) (0 + Int.toNat (↑s.1 : Int) * 2 + 1))))))) = Value.int
  IntKind.u8 (IntKind.wrap IntKind.u8 (Int.ofNat (List.length (Array.toList (ByteArray.data (cellS (gC enF g.1) (0 + Int.toNat (↑s.1 : Int) * 2 + 1)))))))) /\ ((Eq (α :=
  Option Value) ((gC enF g.1)[0 + Int.toNat (↑s.1 : Int) * 2 + 1]?) (some (Value.string (cellS (gC enF g.1) (0 + Int.toNat (↑s.1 : Int) * 2 + 1))))) /\ ((Value.string (cellS
  (gC enF g.1) (0 + Int.toNat (↑s.1 : Int) * 2 + 1)) = Value.string (cellS (gC enF g.1) (0 + Int.toNat (↑s.1 : Int) * 2 + 1))) /\ ((Eq (α := Option Value) ((gC enF g.1)[0 +
  Int.toNat (↑s.1 : Int) * 2 + 1]?) (some (Value.string (cellS (gC enF g.1) (0 + Int.toNat (↑s.1 : Int) * 2 + 1))))) /\ ((Value.string (cellS (gC enF g.1) (0 + Int.toNat
  (↑s.1 : Int) * 2 + 1)) = Value.string (cellS (gC enF g.1) (0 + Int.toNat (↑s.1 : Int) * 2 + 1))) /\ ((Eq (α := Option Value) ((gC enF g.1)[0 + Int.toNat (↑s.1 : Int) * 2 +
  1]?) (some (Value.string (cellS (gC enF g.1) (0 + Int.toNat (↑s.1 : Int) * 2 + 1))))) /\ ((Value.string (cellS (gC enF g.1) (0 + Int.toNat (↑s.1 : Int) * 2 + 1)) =
  Value.string (cellS (gC enF g.1) (0 + Int.toNat (↑s.1 : Int) * 2 + 1))) /\ ((Eq (α := Option Value) ((gC enF g.1)[0 + Int.toNat (↑s.1 : Int) * 2 + 1]?) (some (Value.string
  (cellS (gC enF g.1) (0 + Int.toNat (↑s.1 : Int) * 2 + 1))))) /\ ((Value.string (cellS (gC enF g.1) (0 + Int.toNat (↑s.1 : Int) * 2 + 1)) = Value.string (cellS (gC enF g.1)
  (0 + Int.toNat (↑s.1 : Int) * 2 + 1))) /\ (br (decide ((0 : Int) <= (↑s.1 : Int) /\ (↑s.1 : Int) < (↑(List.length g.1) : Int))) ((Eq (α := Option Value) ((gC enF g.1)[0 +
  Int.toNat (↑s.1 : Int) * 2]?) (some (Value.string (cellS (gC enF g.1) (0 + Int.toNat (↑s.1 : Int) * 2))))) /\ ((Eq (α := Option Value) ((gC enF g.1)[0 + Int.toNat (↑s.1 :
  Int) * 2 + 1]?) (some (Value.string (cellS (gC enF g.1) (0 + Int.toNat (↑s.1 : Int) * 2 + 1))))) /\ (br (decide (List.length s.3 + 1 <= 16777216)) (br (decide (0 +
  List.length s.3 * 3 <= List.length (gC enW s.3))) (∃ j : SN, ((Inv j) /\ ((m j < m s) /\ ((0 = 0) /\ ((List.length g.1 = List.length g.1) /\ ((g.2 = g.2) /\ ((0 = 0) /\
  ((0 = 0) /\ ((List.length j.2 = List.length s.2 + 2 + List.length (Array.toList (ByteArray.data (cellS (gC enF g.1) (0 + Int.toNat (↑s.1 : Int) * 2 + 0)))) + 1 +
  List.length (Array.toList (ByteArray.data (cellS (gC enF g.1) (0 + Int.toNat (↑s.1 : Int) * 2 + 1))))) /\ ((0 = 0) /\ ((List.length j.3 = List.length s.3 + 1) /\ (((↑j.1 :
  Int) = IntKind.wrap IntKind.i64 ((↑s.1 : Int) + (1 : Int))) /\ ((Eq (α := List Value) (gC enF g.1) (gC enF g.1)) /\ ((Plain (gC enF g.1)) /\ ((0 = 0) /\ (((4096 : Int) =
  (4096 : Int)) /\ (((2147483647 : Int) = (2147483647 : Int)) /\ ((false = false) /\ ((0 = 0) /\ ((0 = 0) /\ (((0 : Int) = (0 : Int)) /\ (((4096 : Int) = (4096 : Int)) /\
  ((Eq (α := List Value) ([]) ([])) /\ ((Plain []) /\ ((Eq (α := List Value) (bCells j.2) (List.take ((List.length s.2 + 2 + List.length (Array.toList (ByteArray.data (cellS
  (gC enF g.1) (0 + Int.toNat (↑s.1 : Int) * 2 + 0)))) + 1) * 1) (List.drop 0 (List.take ((List.length s.2 + 2 + List.length (Array.toList (ByteArray.data (cellS (gC enF
  g.1) (0 + Int.toNat (↑s.1 : Int) * 2 + 0))))) * 1) (List.drop 0 (List.take ((List.length s.2 + 2) * 1) (List.drop 0 (List.take (List.length s.2 * 1) (List.drop 0 (bCells
  s.2)) ++ [Value.int IntKind.u8 (0 : Int), Value.int IntKind.u8 (IntKind.wrap IntKind.u8 (Int.ofNat (List.length (Array.toList (ByteArray.data (cellS (gC enF g.1) (0 +
  Int.toNat (↑s.1 : Int) * 2 + 0)))))))])) ++ List.map (fun b ↦ Value.int IntKind.u8 (↑(UInt8.toNat b) : Int)) (Array.toList (ByteArray.data (cellS (gC enF g.1) (0 +
  Int.toNat (↑s.1 : Int) * 2 + 0)))))) ++ [Value.int IntKind.u8 (IntKind.wrap IntKind.u8 (Int.ofNat (List.length (Array.toList (ByteArray.data (cellS (gC enF g.1) (0 +
  Int.toNat (↑s.1 : Int) * 2 + 1)))))))])) ++ List.map (fun b ↦ Value.int IntKind.u8 (↑(UInt8.toNat b) : Int)) (Array.toList (ByteArray.data (cellS (gC enF g.1) (0 +
  Int.toNat (↑s.1 : Int) * 2 + 1)))))) /\ ((Plain (bCells j.2)) /\ ((Eq (α := List Value) (gC enW j.3) (List.take (List.length s.3 * 3) (List.drop 0 (gC enW s.3)) ++
  [Value.string (cellS (gC enF g.1) (0 + Int.toNat (↑s.1 : Int) * 2)), Value.string (cellS (gC enF g.1) (0 + Int.toNat (↑s.1 : Int) * 2 + 1)), Value.int IntKind.i64 (2 :
  Int)])) /\ ((Plain (gC enW j.3)) /\ True)))))))))))))))))))))))))))) False) False))) False))))))))))))))))))))))))) False) ((Eq (α := Option Value) ((gC enF g.1)[0 +
  Int.toNat (↑s.1 : Int) * 2 + 0]?) (some (Value.string (cellS (gC enF g.1) (0 + Int.toNat (↑s.1 : Int) * 2 + 0))))) /\ ((Value.string (cellS (gC enF g.1) (0 + Int.toNat
  (↑s.1 : Int) * 2 + 0)) = Value.string (cellS (gC enF g.1) (0 + Int.toNat (↑s.1 : Int) * 2 + 0))) /\ ((Value.int IntKind.u8 (IntKind.wrap IntKind.u8 (Int.ofNat (List.length
  (Array.toList (ByteArray.data (cellS (gC enF g.1) (0 + Int.toNat (↑s.1 : Int) * 2 + 0))))))) = Value.int IntKind.u8 (IntKind.wrap IntKind.u8 (Int.ofNat (List.length
  (Array.toList (ByteArray.data (cellS (gC enF g.1) (0 + Int.toNat (↑s.1 : Int) * 2 + 0)))))))) /\ ((Eq (α := Option Value) ((gC enF g.1)[0 + Int.toNat (↑s.1 : Int) * 2 +
  0]?) (some (Value.string (cellS (gC enF g.1) (0 + Int.toNat (↑s.1 : Int) * 2 + 0))))) /\ ((Value.string (cellS (gC enF g.1) (0 + Int.toNat (↑s.1 : Int) * 2 + 0)) =
  Value.string (cellS (gC enF g.1) (0 + Int.toNat (↑s.1 : Int) * 2 + 0))) /\ ((Eq (α := Option Value) ((gC enF g.1)[0 + Int.toNat (↑s.1 : Int) * 2 + 0]?) (some (Value.string
  (cellS (gC enF g.1) (0 + Int.toNat (↑s.1 : Int) * 2 + 0))))) /\ ((Value.string (cellS (gC enF g.1) (0 + Int.toNat (↑s.1 : Int) * 2 + 0)) = Value.string (cellS (gC enF g.1)
  (0 + Int.toNat (↑s.1 : Int) * 2 + 0))) /\ ((Eq (α := Option Value) ((gC enF g.1)[0 + Int.toNat (↑s.1 : Int) * 2 + 1]?) (some (Value.string (cellS (gC enF g.1) (0 +
  Int.toNat (↑s.1 : Int) * 2 + 1))))) /\ ((Value.string (cellS (gC enF g.1) (0 + Int.toNat (↑s.1 : Int) * 2 + 1)) = Value.string (cellS (gC enF g.1) (0 + Int.toNat (↑s.1 :
  Int) * 2 + 1))) /\ ((Eq (α := Option Value) ((gC enF g.1)[0 + Int.toNat (↑s.1 : Int) * 2 + 1]?) (some (Value.string (cellS (gC enF g.1) (0 + Int.toNat (↑s.1 : Int) * 2 +
  1))))) /\ ((Value.string (cellS (gC enF g.1) (0 + Int.toNat (↑s.1 : Int) * 2 + 1)) = Value.string (cellS (gC enF g.1) (0 + Int.toNat (↑s.1 : Int) * 2 + 1))) /\ ((Eq (α :=
  Option Value) ((gC enF g.1)[0 + Int.toNat (↑s.1 : Int) * 2 + 1]?) (some (Value.string (cellS (gC enF g.1) (0 + Int.toNat (↑s.1 : Int) * 2 + 1))))) /\ ((Value.string (cellS
  (gC enF g.1) (0 + Int.toNat (↑s.1 : Int) * 2 + 1)) = Value.string (cellS (gC enF g.1) (0 + Int.toNat (↑s.1 : Int) * 2 + 1))) /\ ((Value.int IntKind.u8 (IntKind.wrap
  IntKind.u8 (Int.ofNat (List.length (Array.toList (ByteArray.data (cellS (gC enF g.1) (0 + Int.toNat (↑s.1 : Int) * 2 + 1))))))) = Value.int IntKind.u8 (IntKind.wrap
  IntKind.u8 (Int.ofNat (List.length (Array.toList (ByteArray.data (cellS (gC enF g.1) (0 + Int.toNat (↑s.1 : Int) * 2 + 1)))))))) /\ ((Value.int IntKind.u8 (IntKind.wrap
  IntKind.u8 (Int.ofNat (List.length (Array.toList (ByteArray.data (cellS (gC enF g.1) (0 + Int.toNat (↑s.1 : Int) * 2 + 1))))))) = Value.int IntKind.u8 (IntKind.wrap
  IntKind.u8 (Int.ofNat (List.length (Array.toList (ByteArray.data (cellS (gC enF g.1) (0 + Int.toNat (↑s.1 : Int) * 2 + 1)))))))) /\ ((Value.int IntKind.u8 (IntKind.wrap
  IntKind.u8 (Int.ofNat (List.length (Array.toList (ByteArray.data (cellS (gC enF g.1) (0 + Int.toNat (↑s.1 : Int) * 2 + 1))))))) = Value.int IntKind.u8 (IntKind.wrap
  IntKind.u8 (Int.ofNat (List.length (Array.toList (ByteArray.data (cellS (gC enF g.1) (0 + Int.toNat (↑s.1 : Int) * 2 + 1)))))))) /\ ((Eq (α := Option Value) ((gC enF
  g.1)[0 + Int.toNat (↑s.1 : Int) * 2 + 1]?) (some (Value.string (cellS (gC enF g.1) (0 + Int.toNat (↑s.1 : Int) * 2 + 1))))) /\ ((Value.string (cellS (gC enF g.1) (0 +
  Int.toNat (↑s.1 : Int) * 2 + 1)) = Value.string (cellS (gC enF g.1) (0 + Int.toNat (↑s.1 : Int) * 2 + 1))) /\ ((Eq (α := Option Value) ((gC enF g.1)[0 + Int.toNat (↑s.1 :
  Int) * 2 + 1]?) (some (Value.string (cellS (gC enF g.1) (0 + Int.toNat (↑s.1 : Int) * 2 + 1))))) /\ ((Value.string (cellS (gC enF g.1) (0 + Int.toNat (↑s.1 : Int) * 2 +
  1)) = Value.string (cellS (gC enF g.1) (0 + Int.toNat (↑s.1 : Int) * 2 + 1))) /\ ((Eq (α := Option Value) ((gC enF g.1)[0 + Int.toNat (↑s.1 : Int) * 2 + 1]?) (some
  (Value.string (cellS (gC enF g.1) (0 + Int.toNat (↑s.1 : Int) * 2 + 1))))) /\ ((Value.string (cellS (gC enF g.1) (0 + Int.toNat (↑s.1 : Int) * 2 + 1)) = Value.string
  (cellS (gC enF g.1) (0 + Int.toNat (↑s.1 : Int) * 2 + 1))) /\ ((Eq (α := Option Value) ((gC enF g.1)[0 + Int.toNat (↑s.1 : Int) * 2 + 1]?) (some (Value.string (cellS (gC
  enF g.1) (0 + Int.toNat (↑s.1 : Int) * 2 + 1))))) /\ ((Value.string (cellS (gC enF g.1) (0 + Int.toNat (↑s.1 : Int) * 2 + 1)) = Value.string (cellS (gC enF g.1) (0 +
  Int.toNat (↑s.1 : Int) * 2 + 1))) /\ (br (decide ((0 : Int) <= (↑s.1 : Int) /\ (↑s.1 : Int) < (↑(List.length g.1) : Int))) ((Eq (α := Option Value) ((gC enF g.1)[0 +
  Int.toNat (↑s.1 : Int) * 2]?) (some (Value.string (cellS (gC enF g.1) (0 + Int.toNat (↑s.1 : Int) * 2))))) /\ ((Eq (α := Option Value) ((gC enF g.1)[0 + Int.toNat (↑s.1 :
  Int) * 2 + 1]?) (some (Value.string (cellS (gC enF g.1) (0 + Int.toNat (↑s.1 : Int) * 2 + 1))))) /\ (br (decide (List.length s.3 + 1 <= 16777216)) (br (decide (0 +
  List.length s.3 * 3 <= List.length (gC enW s.3))) (∃ j : SN, ((Inv j) /\ ((m j < m s) /\ ((0 = 0) /\ ((List.length g.1 = List.length g.1) /\ ((g.2 = g.2) /\ ((0 = 0) /\
  ((0 = 0) /\ ((List.length j.2 = List.length s.2 + 2 + List.length (Array.toList (ByteArray.data (cellS (gC enF g.1) (0 + Int.toNat (↑s.1 : Int) * 2 + 0)))) + 1) /\ ((0 =
  0) /\ ((List.length j.3 = List.length s.3 + 1) /\ (((↑j.1 : Int) = IntKind.wrap IntKind.i64 ((↑s.1 : Int) + (1 : Int))) /\ ((Eq (α := List Value) (gC enF g.1) (gC enF
  g.1)) /\ ((Plain (gC enF g.1)) /\ ((0 = 0) /\ (((4096 : Int) = (4096 : Int)) /\ (((2147483647 : Int) = (2147483647 : Int)) /\ ((false = false) /\ ((0 = 0) /\ ((0 = 0) /\
  (((0 : Int) = (0 : Int)) /\ (((4096 : Int) = (4096 : Int)) /\ ((Eq (α := List Value) ([]) ([])) /\ ((Plain []) /\ ((Eq (α := List Value) (bCells j.2) (List.take
  ((List.length s.2 + 2 + List.length (Array.toList (ByteArray.data (cellS (gC enF g.1) (0 + Int.toNat (↑s.1 : Int) * 2 + 0))))) * 1) (List.drop 0 (List.take ((List.length
  s.2 + 2) * 1) (List.drop 0 (List.take (List.length s.2 * 1) (List.drop 0 (bCells s.2)) ++ [Value.int IntKind.u8 (0 : Int), Value.int IntKind.u8 (IntKind.wrap IntKind.u8
  (Int.ofNat (List.length (Array.toList (ByteArray.data (cellS (gC enF g.1) (0 + Int.toNat (↑s.1 : Int) * 2 + 0)))))))])) ++ List.map (fun b ↦ Value.int IntKind.u8
  (↑(UInt8.toNat b) : Int)) (Array.toList (ByteArray.data (cellS (gC enF g.1) (0 + Int.toNat (↑s.1 : Int) * 2 + 0)))))) ++ [Value.int IntKind.u8 (IntKind.wrap IntKind.u8
  (Int.ofNat (List.length (Array.toList (ByteArray.data (cellS (gC enF g.1) (0 + Int.toNat (↑s.1 : Int) * 2 + 1)))))))])) /\ ((Plain (bCells j.2)) /\ ((Eq (α := List Value)
  (gC enW j.3) (List.take (List.length s.3 * 3) (List.drop 0 (gC enW s.3)) ++ [Value.string (cellS (gC enF g.1) (0 + Int.toNat (↑s.1 : Int) * 2)), Value.string (cellS (gC
  enF g.1) (0 + Int.toNat (↑s.1 : Int) * 2 + 1)), Value.int IntKind.i64 (2 : Int)])) /\ ((Plain (gC enW j.3)) /\ True)))))))))))))))))))))))))))) False) False)))
  False)))))))))))))))))))))))))) False) False)) False) False) False)) False) False) (br (decide ((0 : Int) <= (↑s.1 : Int) /\ (↑s.1 : Int) < (↑(List.length g.1) : Int)))
  ((Eq (α := Option Value) ((gC enF g.1)[0 + Int.toNat (↑s.1 : Int) * 2 + 1]?) (some (Value.string (cellS (gC enF g.1) (0 + Int.toNat (↑s.1 : Int) * 2 + 1))))) /\ (br
  (decide (List.length s.2 + 2 + 1 <= 16777216)) (br (decide (0 + (List.length s.2 + 2) * 1 <= List.length (List.take (List.length s.2 * 1) (List.drop 0 (bCells s.2)) ++
  [Value.int IntKind.u8 (0 : Int), Value.int IntKind.u8 (IntKind.wrap IntKind.u8 (Int.ofNat (List.length (Array.toList (ByteArray.data (cellS (gC enF g.1) (0 + Int.toNat
  (↑s.1 : Int) * 2 + 0)))))))]))) (br (decide ((0 : Int) <= (↑s.1 : Int) /\ (↑s.1 : Int) < (↑(List.length g.1) : Int))) ((Eq (α := Option Value) ((gC enF g.1)[0 + Int.toNat
  (↑s.1 : Int) * 2 + 1]?) (some (Value.string (cellS (gC enF g.1) (0 + Int.toNat (↑s.1 : Int) * 2 + 1))))) /\ (br (allOne (List.map (fun b ↦ Value.int IntKind.u8
  (↑(UInt8.toNat b) : Int)) (Array.toList (ByteArray.data (cellS (gC enF g.1) (0 + Int.toNat (↑s.1 : Int) * 2 + 1)))))) (br (decide (List.length s.2 + 2 + 1 + List.length
  (Array.toList (ByteArray.data (cellS (gC enF g.1) (0 + Int.toNat (↑s.1 : Int) * 2 + 1)))) <= 16777216)) (br (decide (0 < List.length s.2 + 2 + 1 + List.length
  (Array.toList (ByteArray.data (cellS (gC enF g.1) (0 + Int.toNat (↑s.1 : Int) * 2 + 1)))) ∨ List.length (List.take ((List.length s.2 + 2) * 1) (List.drop 0 (List.take
  (List.length s.2 * 1) (List.drop 0 (bCells s.2)) ++ [Value.int IntKind.u8 (0 : Int), Value.int IntKind.u8 (IntKind.wrap IntKind.u8 (Int.ofNat (List.length (Array.toList
  (ByteArray.data (cellS (gC enF g.1) (0 + Int.toNat (↑s.1 : Int) * 2 + 0)))))))])) ++ [Value.int IntKind.u8 (IntKind.wrap IntKind.u8 (Int.ofNat (List.length (Array.toList
  (ByteArray.data (cellS (gC enF g.1) (0 + Int.toNat (↑s.1 : Int) * 2 + 1)))))))]) = 0)) (br (decide (0 + (List.length s.2 + 2 + 1) * 1 <= List.length (List.take
  ((List.length s.2 + 2) * 1) (List.drop 0 (List.take (List.length s.2 * 1) (List.drop 0 (bCells s.2)) ++ [Value.int IntKind.u8 (0 : Int), Value.int IntKind.u8 (IntKind.wrap
  IntKind.u8 (Int.ofNat (List.length (Array.toList (ByteArray.data (cellS (gC enF g.1) (0 + Int.toNat (↑s.1 : Int) * 2 + 0)))))))])) ++ [Value.int IntKind.u8 (IntKind.wrap
  IntKind.u8 (Int.ofNat (List.length (Array.toList (ByteArray.data (cellS (gC enF g.1) (0 + Int.toNat (↑s.1 : Int) * 2 + 1)))))))]))) ((Eq (α := Option Value) ((gC enF
  g.1)[0 + Int.toNat (↑s.1 : Int) * 2 + 0]?) (some (Value.string (cellS (gC enF g.1) (0 + Int.toNat (↑s.1 : Int) * 2 + 0))))) /\ ((Value.string (cellS (gC enF g.1) (0 +
  Int.toNat (↑s.1 : Int) * 2 + 0)) = Value.string (cellS (gC enF g.1) (0 + Int.toNat (↑s.1 : Int) * 2 + 0))) /\ ((Value.int IntKind.u8 (IntKind.wrap IntKind.u8 (Int.ofNat
  (List.length (Array.toList (ByteArray.data (cellS (gC enF g.1) (0 + Int.toNat (↑s.1 : Int) * 2 + 0))))))) = Value.int IntKind.u8 (IntKind.wrap IntKind.u8 (Int.ofNat
  (List.length (Array.toList (ByteArray.data (cellS (gC enF g.1) (0 + Int.toNat (↑s.1 : Int) * 2 + 0)))))))) /\ ((Eq (α := Option Value) ((gC enF g.1)[0 + Int.toNat (↑s.1 :
  Int) * 2 + 0]?) (some (Value.string (cellS (gC enF g.1) (0 + Int.toNat (↑s.1 : Int) * 2 + 0))))) /\ ((Value.string (cellS (gC enF g.1) (0 + Int.toNat (↑s.1 : Int) * 2 +
  0)) = Value.string (cellS (gC enF g.1) (0 + Int.toNat (↑s.1 : Int) * 2 + 0))) /\ ((Eq (α := Option Value) ((gC enF g.1)[0 + Int.toNat (↑s.1 : Int) * 2 + 0]?) (some
  (Value.string (cellS (gC enF g.1) (0 + Int.toNat (↑s.1 : Int) * 2 + 0))))) /\ ((Value.string (cellS (gC enF g.1) (0 + Int.toNat (↑s.1 : Int) * 2 + 0)) = Value.string
  (cellS (gC enF g.1) (0 + Int.toNat (↑s.1 : Int) * 2 + 0))) /\ ((Eq (α := Option Value) ((gC enF g.1)[0 + Int.toNat (↑s.1 : Int) * 2 + 1]?) (some (Value.string (cellS (gC
  enF g.1) (0 + Int.toNat (↑s.1 : Int) * 2 + 1))))) /\ ((Value.string (cellS (gC enF g.1) (0 + Int.toNat (↑s.1 : Int) * 2 + 1)) = Value.string (cellS (gC enF g.1) (0 +
  Int.toNat (↑s.1 : Int) * 2 + 1))) /\ ((Eq (α := Option Value) ((gC enF g.1)[0 + Int.toNat (↑s.1 : Int) * 2 + 1]?) (some (Value.string (cellS (gC enF g.1) (0 + Int.toNat
  (↑s.1 : Int) * 2 + 1))))) /\ ((Value.string (cellS (gC enF g.1) (0 + Int.toNat (↑s.1 : Int) * 2 + 1)) = Value.string (cellS (gC enF g.1) (0 + Int.toNat (↑s.1 : Int) * 2 +
  1))) /\ ((Eq (α := Option Value) ((gC enF g.1)[0 + Int.toNat (↑s.1 : Int) * 2 + 1]?) (some (Value.string (cellS (gC enF g.1) (0 + Int.toNat (↑s.1 : Int) * 2 + 1))))) /\
  ((Value.string (cellS (gC enF g.1) (0 + Int.toNat (↑s.1 : Int) * 2 + 1)) = Value.string (cellS (gC enF g.1) (0 + Int.toNat (↑s.1 : Int) * 2 + 1))) /\ ((Value.int
  IntKind.u8 (IntKind.wrap IntKind.u8 (Int.ofNat (List.length (Array.toList (ByteArray.data (cellS (gC enF g.1) (0 + Int.toNat (↑s.1 : Int) * 2 + 1))))))) = Value.int
  IntKind.u8 (IntKind.wrap IntKind.u8 (Int.ofNat (List.length (Array.toList (ByteArray.data (cellS (gC enF g.1) (0 + Int.toNat (↑s.1 : Int) * 2 + 1)))))))) /\ ((Value.int
  IntKind.u8 (IntKind.wrap IntKind.u8 (Int.ofNat (List.length (Array.toList (ByteArray.data (cellS (gC enF g.1) (0 + Int.toNat (↑s.1 : Int) * 2 + 1))))))) = Value.int
  IntKind.u8 (IntKind.wrap IntKind.u8 (Int.ofNat (List.length (Array.toList (ByteArray.data (cellS (gC enF g.1) (0 + Int.toNat (↑s.1 : Int) * 2 + 1)))))))) /\ ((Value.int
  IntKind.u8 (IntKind.wrap IntKind.u8 (Int.ofNat (List.length (Array.toList (ByteArray.data (cellS (gC enF g.1) (0 + Int.toNat (↑s.1 : Int) * 2 + 1))))))) = Value.int
  IntKind.u8 (IntKind.wrap IntKind.u8 (Int.ofNat (List.length (Array.toList (ByteArray.data (cellS (gC enF g.1) (0 + Int.toNat (↑s.1 : Int) * 2 + 1)))))))) /\ ((Eq (α :=
  Option Value) ((gC enF g.1)[0 + Int.toNat (↑s.1 : Int) * 2 + 1]?) (some (Value.string (cellS (gC enF g.1) (0 + Int.toNat (↑s.1 : Int) * 2 + 1))))) /\ ((Value.string (cellS
  (gC enF g.1) (0 + Int.toNat (↑s.1 : Int) * 2 + 1)) = Value.string (cellS (gC enF g.1) (0 + Int.toNat (↑s.1 : Int) * 2 + 1))) /\ ((Eq (α := Option Value) ((gC enF g.1)[0 +
  Int.toNat (↑s.1 : Int) * 2 + 1]?) (some (Value.string (cellS (gC enF g.1) (0 + Int.toNat (↑s.1 : Int) * 2 + 1))))) /\ ((Value.string (cellS (gC enF g.1) (0 + Int.toNat
  (↑s.1 : Int) * 2 + 1)) = Value.string (cellS (gC enF g.1) (0 + Int.toNat (↑s.1 : Int) * 2 + 1))) /\ ((Eq (α := Option Value) ((gC enF g.1)[0 + Int.toNat (↑s.1 : Int) * 2 +
  1]?) (some (Value.string (cellS (gC enF g.1) (0 + Int.toNat (↑s.1 : Int) * 2 + 1))))) /\ ((Value.string (cellS (gC enF g.1) (0 + Int.toNat (↑s.1 : Int) * 2 + 1)) =
  Value.string (cellS (gC enF g.1) (0 + Int.toNat (↑s.1 : Int) * 2 + 1))) /\ ((Eq (α := Option Value) ((gC enF g.1)[0 + Int.toNat (↑s.1 : Int) * 2 + 1]?) (some (Value.string
  (cellS (gC enF g.1) (0 + Int.toNat (↑s.1 : Int) * 2 + 1))))) /\ ((Value.string (cellS (gC enF g.1) (0 + Int.toNat (↑s.1 : Int) * 2 + 1)) = Value.string (cellS (gC enF g.1)
  (0 + Int.toNat (↑s.1 : Int) * 2 + 1))) /\ (br (decide ((0 : Int) <= (↑s.1 : Int) /\ (↑s.1 : Int) < (↑(List.length g.1) : Int))) ((Eq (α := Option Value) ((gC enF g.1)[0 +
  Int.toNat (↑s.1 : Int) * 2]?) (some (Value.string (cellS (gC enF g.1) (0 + Int.toNat (↑s.1 : Int) * 2))))) /\ ((Eq (α := Option Value) ((gC enF g.1)[0 + Int.toNat (↑s.1 :
  Int) * 2 + 1]?) (some (Value.string (cellS (gC enF g.1) (0 + Int.toNat (↑s.1 : Int) * 2 + 1))))) /\ (br (decide (List.length s.3 + 1 <= 16777216)) (br (decide (0 +
  List.length s.3 * 3 <= List.length (gC enW s.3))) (∃ j : SN, ((Inv j) /\ ((m j < m s) /\ ((0 = 0) /\ ((List.length g.1 = List.length g.1) /\ ((g.2 = g.2) /\ ((0 = 0) /\
  ((0 = 0) /\ ((List.length j.2 = List.length s.2 + 2 + 1 + List.length (Array.toList (ByteArray.data (cellS (gC enF g.1) (0 + Int.toNat (↑s.1 : Int) * 2 + 1))))) /\ ((0 =
  0) /\ ((List.length j.3 = List.length s.3 + 1) /\ (((↑j.1 : Int) = IntKind.wrap IntKind.i64 ((↑s.1 : Int) + (1 : Int))) /\ ((Eq (α := List Value) (gC enF g.1) (gC enF
  g.1)) /\ ((Plain (gC enF g.1)) /\ ((0 = 0) /\ (((4096 : Int) = (4096 : Int)) /\ (((2147483647 : Int) = (2147483647 : Int)) /\ ((false = false) /\ ((0 = 0) /\ ((0 = 0) /\
  (((0 : Int) = (0 : Int)) /\ (((4096 : Int) = (4096 : Int)) /\ ((Eq (α := List Value) ([]) ([])) /\ ((Plain []) /\ ((Eq (α := List Value) (bCells j.2) (List.take
  ((List.length s.2 + 2 + 1) * 1) (List.drop 0 (List.take ((List.length s.2 + 2) * 1) (List.drop 0 (List.take (List.length s.2 * 1) (List.drop 0 (bCells s.2)) ++ [Value.int
  IntKind.u8 (0 : Int), Value.int IntKind.u8 (IntKind.wrap IntKind.u8 (Int.ofNat (List.length (Array.toList (ByteArray.data (cellS (gC enF g.1) (0 + Int.toNat (↑s.1 : Int) *
  2 + 0)))))))])) ++ [Value.int IntKind.u8 (IntKind.wrap IntKind.u8 (Int.ofNat (List.length (Array.toList (ByteArray.data (cellS (gC enF g.1) (0 + Int.toNat (↑s.1 : Int) * 2
  + 1)))))))])) ++ List.map (fun b ↦ Value.int IntKind.u8 (↑(UInt8.toNat b) : Int)) (Array.toList (ByteArray.data (cellS (gC enF g.1) (0 + Int.toNat (↑s.1 : Int) * 2 +
  1)))))) /\ ((Plain (bCells j.2)) /\ ((Eq (α := List Value) (gC enW j.3) (List.take (List.length s.3 * 3) (List.drop 0 (gC enW s.3)) ++ [Value.string (cellS (gC enF g.1) (0
  + Int.toNat (↑s.1 : Int) * 2)), Value.string (cellS (gC enF g.1) (0 + Int.toNat (↑s.1 : Int) * 2 + 1)), Value.int IntKind.i64 (2 : Int)])) /\ ((Plain (gC enW j.3)) /\
  True)))))))))))))))))))))))))))) False) False))) False))))))))))))))))))))))))) False) ((Eq (α := Option Value) ((gC enF g.1)[0 + Int.toNat (↑s.1 : Int) * 2 + 0]?) (some
  (Value.string (cellS (gC enF g.1) (0 + Int.toNat (↑s.1 : Int) * 2 + 0))))) /\ ((Value.string (cellS (gC enF g.1) (0 + Int.toNat (↑s.1 : Int) * 2 + 0)) = Value.string
  (cellS (gC enF g.1) (0 + Int.toNat (↑s.1 : Int) * 2 + 0))) /\ ((Value.int IntKind.u8 (IntKind.wrap IntKind.u8 (Int.ofNat (List.length (Array.toList (ByteArray.data (cellS
  (gC enF g.1) (0 + Int.toNat (↑s.1 : Int) * 2 + 0))))))) = Value.int IntKind.u8 (IntKind.wrap IntKind.u8 (Int.ofNat (List.length (Array.toList (ByteArray.data (cellS (gC
  enF g.1) (0 + Int.toNat (↑s.1 : Int) * 2 + 0)))))))) /\ ((Eq (α := Option Value) ((gC enF g.1)[0 + Int.toNat (↑s.1 : Int) * 2 + 0]?) (some (Value.string (cellS (gC enF
  g.1) (0 + Int.toNat (↑s.1 : Int) * 2 + 0))))) /\ ((Value.string (cellS (gC enF g.1) (0 + Int.toNat (↑s.1 : Int) * 2 + 0)) = Value.string (cellS (gC enF g.1) (0 + Int.toNat
  (↑s.1 : Int) * 2 + 0))) /\ ((Eq (α := Option Value) ((gC enF g.1)[0 + Int.toNat (↑s.1 : Int) * 2 + 0]?) (some (Value.string (cellS (gC enF g.1) (0 + Int.toNat (↑s.1 : Int)
  * 2 + 0))))) /\ ((Value.string (cellS (gC enF g.1) (0 + Int.toNat (↑s.1 : Int) * 2 + 0)) = Value.string (cellS (gC enF g.1) (0 + Int.toNat (↑s.1 : Int) * 2 + 0))) /\ ((Eq
  (α := Option Value) ((gC enF g.1)[0 + Int.toNat (↑s.1 : Int) * 2 + 1]?) (some (Value.string (cellS (gC enF g.1) (0 + Int.toNat (↑s.1 : Int) * 2 + 1))))) /\ ((Value.string
  (cellS (gC enF g.1) (0 + Int.toNat (↑s.1 : Int) * 2 + 1)) = Value.string (cellS (gC enF g.1) (0 + Int.toNat (↑s.1 : Int) * 2 + 1))) /\ ((Eq (α := Option Value) ((gC enF
  g.1)[0 + Int.toNat (↑s.1 : Int) * 2 + 1]?) (some (Value.string (cellS (gC enF g.1) (0 + Int.toNat (↑s.1 : Int) * 2 + 1))))) /\ ((Value.string (cellS (gC enF g.1) (0 +
  Int.toNat (↑s.1 : Int) * 2 + 1)) = Value.string (cellS (gC enF g.1) (0 + Int.toNat (↑s.1 : Int) * 2 + 1))) /\ ((Eq (α := Option Value) ((gC enF g.1)[0 + Int.toNat (↑s.1 :
  Int) * 2 + 1]?) (some (Value.string (cellS (gC enF g.1) (0 + Int.toNat (↑s.1 : Int) * 2 + 1))))) /\ ((Value.string (cellS (gC enF g.1) (0 + Int.toNat (↑s.1 : Int) * 2 +
  1)) = Value.string (cellS (gC enF g.1) (0 + Int.toNat (↑s.1 : Int) * 2 + 1))) /\ ((Value.int IntKind.u8 (IntKind.wrap IntKind.u8 (Int.ofNat (List.length (Array.toList
  (ByteArray.data (cellS (gC enF g.1) (0 + Int.toNat (↑s.1 : Int) * 2 + 1))))))) = Value.int IntKind.u8 (IntKind.wrap IntKind.u8 (Int.ofNat (List.length (Array.toList
  (ByteArray.data (cellS (gC enF g.1) (0 + Int.toNat (↑s.1 : Int) * 2 + 1)))))))) /\ ((Value.int IntKind.u8 (IntKind.wrap IntKind.u8 (Int.ofNat (List.length (Array.toList
  (ByteArray.data (cellS (gC enF g.1) (0 + Int.toNat (↑s.1 : Int) * 2 + 1))))))) = Value.int IntKind.u8 (IntKind.wrap IntKind.u8 (Int.ofNat (List.length (Array.toList
  (ByteArray.data (cellS (gC enF g.1) (0 + Int.toNat (↑s.1 : Int) * 2 + 1)))))))) /\ ((Value.int IntKind.u8 (IntKind.wrap IntKind.u8 (Int.ofNat (List.length (Array.toList
  (ByteArray.data (cellS (gC enF g.1) (0 + Int.toNat (↑s.1 : Int) * 2 + 1))))))) = Value.int IntKind.u8 (IntKind.wrap IntKind.u8 (Int.ofNat (List.length (Array.toList
  (ByteArray.data (cellS (gC enF g.1) (0 + Int.toNat (↑s.1 : Int) * 2 + 1)))))))) /\ ((Eq (α := Option Value) ((gC enF g.1)[0 + Int.toNat (↑s.1 : Int) * 2 + 1]?) (some
  (Value.string (cellS (gC enF g.1) (0 + Int.toNat (↑s.1 : Int) * 2 + 1))))) /\ ((Value.string (cellS (gC enF g.1) (0 + Int.toNat (↑s.1 : Int) * 2 + 1)) = Value.string
  (cellS (gC enF g.1) (0 + Int.toNat (↑s.1 : Int) * 2 + 1))) /\ ((Eq (α := Option Value) ((gC enF g.1)[0 + Int.toNat (↑s.1 : Int) * 2 + 1]?) (some (Value.string (cellS (gC
  enF g.1) (0 + Int.toNat (↑s.1 : Int) * 2 + 1))))) /\ ((Value.string (cellS (gC enF g.1) (0 + Int.toNat (↑s.1 : Int) * 2 + 1)) = Value.string (cellS (gC enF g.1) (0 +
  Int.toNat (↑s.1 : Int) * 2 + 1))) /\ ((Eq (α := Option Value) ((gC enF g.1)[0 + Int.toNat (↑s.1 : Int) * 2 + 1]?) (some (Value.string (cellS (gC enF g.1) (0 + Int.toNat
  (↑s.1 : Int) * 2 + 1))))) /\ ((Value.string (cellS (gC enF g.1) (0 + Int.toNat (↑s.1 : Int) * 2 + 1)) = Value.string (cellS (gC enF g.1) (0 + Int.toNat (↑s.1 : Int) * 2 +
  1))) /\ ((Eq (α := Option Value) ((gC enF g.1)[0 + Int.toNat (↑s.1 : Int) * 2 + 1]?) (some (Value.string (cellS (gC enF g.1) (0 + Int.toNat (↑s.1 : Int) * 2 + 1))))) /\
  ((Value.string (cellS (gC enF g.1) (0 + Int.toNat (↑s.1 : Int) * 2 + 1)) = Value.string (cellS (gC enF g.1) (0 + Int.toNat (↑s.1 : Int) * 2 + 1))) /\ (br (decide ((0 :
  Int) <= (↑s.1 : Int) /\ (↑s.1 : Int) < (↑(List.length g.1) : Int))) ((Eq (α := Option Value) ((gC enF g.1)[0 + Int.toNat (↑s.1 : Int) * 2]?) (some (Value.string (cellS (gC
  enF g.1) (0 + Int.toNat (↑s.1 : Int) * 2))))) /\ ((Eq (α := Option Value) ((gC enF g.1)[0 + Int.toNat (↑s.1 : Int) * 2 + 1]?) (some (Value.string (cellS (gC enF g.1) (0 +
  Int.toNat (↑s.1 : Int) * 2 + 1))))) /\ (br (decide (List.length s.3 + 1 <= 16777216)) (br (decide (0 + List.length s.3 * 3 <= List.length (gC enW s.3))) (∃ j : SN, ((Inv
  j) /\ ((m j < m s) /\ ((0 = 0) /\ ((List.length g.1 = List.length g.1) /\ ((g.2 = g.2) /\ ((0 = 0) /\ ((0 = 0) /\ ((List.length j.2 = List.length s.2 + 2 + 1) /\ ((0 = 0)
  /\ ((List.length j.3 = List.length s.3 + 1) /\ (((↑j.1 : Int) = IntKind.wrap IntKind.i64 ((↑s.1 : Int) + (1 : Int))) /\ ((Eq (α := List Value) (gC enF g.1) (gC enF g.1))
  /\ ((Plain (gC enF g.1)) /\ ((0 = 0) /\ (((4096 : Int) = (4096 : Int)) /\ (((2147483647 : Int) = (2147483647 : Int)) /\ ((false = false) /\ ((0 = 0) /\ ((0 = 0) /\ (((0 :
  Int) = (0 : Int)) /\ (((4096 : Int) = (4096 : Int)) /\ ((Eq (α := List Value) ([]) ([])) /\ ((Plain []) /\ ((Eq (α := List Value) (bCells j.2) (List.take ((List.length s.2
  + 2) * 1) (List.drop 0 (List.take (List.length s.2 * 1) (List.drop 0 (bCells s.2)) ++ [Value.int IntKind.u8 (0 : Int), Value.int IntKind.u8 (IntKind.wrap IntKind.u8
  (Int.ofNat (List.length (Array.toList (ByteArray.data (cellS (gC enF g.1) (0 + Int.toNat (↑s.1 : Int) * 2 + 0)))))))])) ++ [Value.int IntKind.u8 (IntKind.wrap IntKind.u8
  (Int.ofNat (List.length (Array.toList (ByteArray.data (cellS (gC enF g.1) (0 + Int.toNat (↑s.1 : Int) * 2 + 1)))))))])) /\ ((Plain (bCells j.2)) /\ ((Eq (α := List Value)
  (gC enW j.3) (List.take (List.length s.3 * 3) (List.drop 0 (gC enW s.3)) ++ [Value.string (cellS (gC enF g.1) (0 + Int.toNat (↑s.1 : Int) * 2)), Value.string (cellS (gC
  enF g.1) (0 + Int.toNat (↑s.1 : Int) * 2 + 1)), Value.int IntKind.i64 (2 : Int)])) /\ ((Plain (gC enW j.3)) /\ True)))))))))))))))))))))))))))) False) False)))
  False)))))))))))))))))))))))))) False) False)) False) False) False)) False)) False) False)) False) False) False)) False)))) False))) False) (∃ y : SN, (((y.1 <= 20 /\ (Eq
  (α := List UInt8) (y.2) (itsB (hdU g.2) (selU g 20)) /\ Eq (α := List Wr) (y.3) (List.map (fun f ↦ Wr.mk f (hwU (GN.nv g))) (selU g 20))))) /\ ((0 = 0) /\ ((0 = 0) /\
  ((List.length y.2 = List.length s.2) /\ ((0 = 0) /\ ((List.length y.3 = List.length s.3) /\ ((Eq (α := List Value) (gC enF g.1) (gC enF g.1)) /\ ((Plain (gC enF g.1)) /\
  ((0 = 0) /\ (((4096 : Int) = (4096 : Int)) /\ (((2147483647 : Int) = (2147483647 : Int)) /\ ((false = false) /\ ((0 = 0) /\ ((0 = 0) /\ (((0 : Int) = (0 : Int)) /\ (((4096
  : Int) = (4096 : Int)) /\ ((Eq (α := List Value) ([]) ([])) /\ ((Plain []) /\ ((Eq (α := List Value) (bCells y.2) (bCells s.2)) /\ ((Plain (bCells y.2)) /\ ((Eq (α := List
  Value) (gC enW y.3) (gC enW s.3)) /\ ((Plain (gC enW y.3)) /\ True)))))))))))))))))))))))) (∃ y : SN, (((y.1 <= 20 /\ (Eq (α := List UInt8) (y.2) (itsB (hdU g.2) (selU g
  20)) /\ Eq (α := List Wr) (y.3) (List.map (fun f ↦ Wr.mk f (hwU (GN.nv g))) (selU g 20))))) /\ ((0 = 0) /\ ((0 = 0) /\ ((List.length y.2 = List.length s.2) /\ ((0 = 0) /\
  ((List.length y.3 = List.length s.3) /\ ((Eq (α := List Value) (gC enF g.1) (gC enF g.1)) /\ ((Plain (gC enF g.1)) /\ ((0 = 0) /\ (((4096 : Int) = (4096 : Int)) /\
  (((2147483647 : Int) = (2147483647 : Int)) /\ ((false = false) /\ ((0 = 0) /\ ((0 = 0) /\ (((0 : Int) = (0 : Int)) /\ (((4096 : Int) = (4096 : Int)) /\ ((Eq (α := List
  Value) ([]) ([])) /\ ((Plain []) /\ ((Eq (α := List Value) (bCells y.2) (bCells s.2)) /\ ((Plain (bCells y.2)) /\ ((Eq (α := List Value) (gC enW y.3) (gC enW s.3)) /\
  ((Plain (gC enW y.3)) /\ True)))))))))))))))))))))))) := by kernel_rfl
theorem N_vc (l : List Fl) (nv : Bool) : mcall EtN mN 60 6 [.slice (some ⟨0, 0, none⟩) l.length 2, .bool nv] ⟨mkR (nums 0 [gRo enF l]), 1⟩ (retIs 1 (.bool true) [gRo enF l]) =
  (∃ g : GN, ((List.length g.1 <= 9223372036854775807) /\ ((0 = 0) /\ ((List.length g.1 = List.length l) /\ ((g.2 = nv) /\ ((0 = 0) /\ ((0 = 0) /\ ((0 = 0) /\ (((0 : Int) =
  (0 : Int)) /\ ((Eq (α := List Value) (gC enF g.1) (gC enF l)) /\ ((Plain (gC enF g.1)) /\ ((0 = 0) /\ (((4096 : Int) = (4096 : Int)) /\ (((2147483647 : Int) = (2147483647
  : Int)) /\ ((false = false) /\ ((0 = 0) /\ (((0 : Int) = (0 : Int)) /\ (((4096 : Int) = (4096 : Int)) /\ ((Eq (α := List Value) ([]) ([])) /\ ((Eq (α := List Value) ([])
  ([])) /\ ((Eq (α := List Value) ([]) ([])) /\ (∀ (y : SN), ((y.1 <= 20 /\ y.2 = itsB (hdU g.2) (selU g 20) /\ y.3 = List.map (fun f ↦ Wr.mk f (hwU (GN.nv g))) (selU g 20))
  → ((((True /\ ((0 + List.length y.2 * 1 <= List.length (bCells y.2) /\ Plain (List.take (List.length y.2 * 1) (List.drop 0 (bCells y.2)))) /\ True)) /\ (((True /\ (True /\
  (True /\ (True /\ True)))) /\ (True /\ ((True /\ (True /\ (True /\ True))) /\ (Plain [] /\ True)))) /\ ((Plain (ubW (Row.mk (List.take (List.length y.2 * 1) (List.drop 0
  (bCells y.2))) true (Ob.cells true)) (4096 : Int) (2147483647 : Int) false (Row.mk [] false (Ob.cells true)) 0 (4096 : Int)) /\ (Plain (ubF (Row.mk (List.take (List.length
  y.2 * 1) (List.drop 0 (bCells y.2))) true (Ob.cells true)) (4096 : Int) (2147483647 : Int) false (Row.mk [] false (Ob.cells true)) 0 (4096 : Int)) /\ True)) /\ (IsB1
  (Row.mk (List.take (List.length y.2 * 1) (List.drop 0 (bCells y.2))) true (Ob.cells true)) (List.length y.2) /\ (IsTs (Row.mk [] false (Ob.cells true)) 0 (0 : Int) (4096 :
  Int) /\ TopP (4096 : Int) (2147483647 : Int) (4096 : Int))))))) /\ ((Value.pointer (some (Addr.mk 2 0 none)) = Value.pointer (some (Addr.mk 2 0 none))) /\ ((Value.pointer
  (some (Addr.mk 2 0 none)) = Value.pointer (some (Addr.mk 2 0 none))) /\ ((Value.pointer (some (Addr.mk 2 0 none)) = Value.pointer (some (Addr.mk 2 0 none))) /\
  ((Value.pointer (some (Addr.mk 2 0 none)) = Value.pointer (some (Addr.mk 2 0 none))) /\ ((Value.pointer (some (Addr.mk 2 0 none)) = Value.pointer (some (Addr.mk 2 0
  none))) /\ ((Value.pointer (some (Addr.mk 2 0 none)) = Value.pointer (some (Addr.mk 2 0 none))) /\ (br (ubE (Row.mk (List.take (List.length y.2 * 1) (List.drop 0 (bCells
  y.2))) true (Ob.cells true)) (4096 : Int) (2147483647 : Int) false (Row.mk [] false (Ob.cells true)) 0 (4096 : Int) == (0 : Int)) (((((0 + ubN (Row.mk (List.take
  (List.length y.2 * 1) (List.drop 0 (bCells y.2))) true (Ob.cells true)) (4096 : Int) (2147483647 : Int) false (Row.mk [] false (Ob.cells true)) 0 (4096 : Int) * 3 <=
  List.length (ubW (Row.mk (List.take (List.length y.2 * 1) (List.drop 0 (bCells y.2))) true (Ob.cells true)) (4096 : Int) (2147483647 : Int) false (Row.mk [] false
  (Ob.cells true)) 0 (4096 : Int)) /\ Plain (List.take (ubN (Row.mk (List.take (List.length y.2 * 1) (List.drop 0 (bCells y.2))) true (Ob.cells true)) (4096 : Int)
  (2147483647 : Int) false (Row.mk [] false (Ob.cells true)) 0 (4096 : Int) * 3) (List.drop 0 (ubW (Row.mk (List.take (List.length y.2 * 1) (List.drop 0 (bCells y.2))) true
  (Ob.cells true)) (4096 : Int) (2147483647 : Int) false (Row.mk [] false (Ob.cells true)) 0 (4096 : Int))))) /\ ((0 + List.length y.3 * 3 <= List.length (gC enW y.3) /\
  Plain (List.take (List.length y.3 * 3) (List.drop 0 (gC enW y.3)))) /\ True)) /\ ((True /\ (True /\ True)) /\ (True /\ (IsSe (Row.mk (List.take (ubN (Row.mk (List.take
  (List.length y.2 * 1) (List.drop 0 (bCells y.2))) true (Ob.cells true)) (4096 : Int) (2147483647 : Int) false (Row.mk [] false (Ob.cells true)) 0 (4096 : Int) * 3)
  (List.drop 0 (ubW (Row.mk (List.take (List.length y.2 * 1) (List.drop 0 (bCells y.2))) true (Ob.cells true)) (4096 : Int) (2147483647 : Int) false (Row.mk [] false
  (Ob.cells true)) 0 (4096 : Int)))) true (Ob.cells true)) (ubN (Row.mk (List.take (List.length y.2 * 1) (List.drop 0 (bCells y.2))) true (Ob.cells true)) (4096 : Int)
  (2147483647 : Int) false (Row.mk [] false (Ob.cells true)) 0 (4096 : Int)) /\ (IsSe (Row.mk (List.take (List.length y.3 * 3) (List.drop 0 (gC enW y.3))) true (Ob.cells
  true)) (List.length y.3) /\ ubN (Row.mk (List.take (List.length y.2 * 1) (List.drop 0 (bCells y.2))) true (Ob.cells true)) (4096 : Int) (2147483647 : Int) false (Row.mk []
  false (Ob.cells true)) 0 (4096 : Int) <= 9223372036854775807)))))) /\ (br (saW (Row.mk (List.take (ubN (Row.mk (List.take (List.length y.2 * 1) (List.drop 0 (bCells y.2)))
  true (Ob.cells true)) (4096 : Int) (2147483647 : Int) false (Row.mk [] false (Ob.cells true)) 0 (4096 : Int) * 3) (List.drop 0 (ubW (Row.mk (List.take (List.length y.2 *
  1) (List.drop 0 (bCells y.2))) true (Ob.cells true)) (4096 : Int) (2147483647 : Int) false (Row.mk [] false (Ob.cells true)) 0 (4096 : Int)))) true (Ob.cells true))
  (Row.mk (List.take (List.length y.3 * 3) (List.drop 0 (gC enW y.3))) true (Ob.cells true))) (br (Int.ofNat (ubK (Row.mk (List.take (List.length y.2 * 1) (List.drop 0
  (bCells y.2))) true (Ob.cells true)) (4096 : Int) (2147483647 : Int) false (Row.mk [] false (Ob.cells true)) 0 (4096 : Int)) == (0 : Int)) (br (ubS (Row.mk (List.take
  (List.length y.2 * 1) (List.drop 0 (bCells y.2))) true (Ob.cells true)) (4096 : Int) (2147483647 : Int) false (Row.mk [] false (Ob.cells true)) 0 (4096 : Int) == (0 :
  Int)) (br (ubM (Row.mk (List.take (List.length y.2 * 1) (List.drop 0 (bCells y.2))) true (Ob.cells true)) (4096 : Int) (2147483647 : Int) false (Row.mk [] false (Ob.cells
  true)) 0 (4096 : Int) == (4096 : Int)) (((True /\ (True /\ (True /\ True)))) /\ ((true = true) /\ ((Eq (α := List Value) (gC enF l) (gC enF g.1)) /\ ((Plain (gC enF l)) /\
  True)))) ((true = false) /\ ((Eq (α := List Value) (gC enF l) (gC enF g.1)) /\ ((Plain (gC enF l)) /\ True)))) ((true = false) /\ ((Eq (α := List Value) (gC enF l) (gC enF
  g.1)) /\ ((Plain (gC enF l)) /\ True)))) ((true = false) /\ ((Eq (α := List Value) (gC enF l) (gC enF g.1)) /\ ((Plain (gC enF l)) /\ True)))) ((true = false) /\ ((Eq (α
  := List Value) (gC enF l) (gC enF g.1)) /\ ((Plain (gC enF l)) /\ True))))) ((true = false) /\ ((Eq (α := List Value) (gC enF l) (gC enF g.1)) /\ ((Plain (gC enF l)) /\
  True)))))))))))))))))))))))))))))))))) := by kernel_rfl
theorem eRunsV_ok : EntOk Try.prog eRunsV := entC_ok (by
  intro a rows p v news h hp
  split at h <;> simp only [Option.some.injEq, Prod.mk.injEq, reduceCtorEq] at h
  obtain ⟨rfl, rfl, rfl⟩ := h
  exact rn_law)
theorem tN_ok : ∀ x ∈ tN, EntOk Try.prog x := all_cons eUb_ok (all_cons eRunsV_ok (all_cons eSaW_ok (all_nil)))
theorem bs_dd (l : List UInt8) : (bs l).data.toList = l := Eq.trans rfl rfl
theorem mapB (l : List UInt8) : List.map (fun b => Value.int IntKind.u8 (b.toNat : Nat)) l = bCells l := rfl
theorem brD {P : Prop} {d : Decidable P} (h : P) (X Y : Prop) : br (@decide P d) X Y = X := by rw [decide_eq_true h]; rfl
theorem brT2 (X Y : Prop) : br true X Y = X := rfl
theorem its_app (hd : UInt8) (a b : List Fl) : itsB hd (a ++ b) = itsB hd a ++ itsB hd b := by unfold itsB; simp
theorem it_len (hd : UInt8) (f : Fl) : (itB hd f).length = f.n.length + f.v.length + 3 := by unfold itB txB0; simp; omega
theorem its_le (hd : UInt8) (L : List Fl) (h : ∀ f ∈ L, okF f) : (itsB hd L).length ≤ 203 * L.length := by
  induction L with
  | nil => exact Nat.le_refl _
  | cons f L ih =>
    have e : itsB hd (f :: L) = itB hd f ++ itsB hd L := rfl
    have i := ih (fun g hg => h g (List.mem_cons_of_mem _ hg))
    have := h f (List.mem_cons_self ..)
    unfold okF at this
    rw [e, List.length_append, it_len, List.length_cons]; omega
theorem sel_ok (g : GN) (i : Nat) : ∀ f ∈ selU g i, okF f := fun f hf => by
  unfold selU at hf
  have := (List.mem_filter.1 hf).2
  unfold okB at this
  simp only [Bool.and_eq_true, decide_eq_true_eq] at this
  exact this
theorem sel_len (g : GN) (i : Nat) : (selU g i).length ≤ i := by
  unfold selU
  exact Nat.le_trans (List.length_filter_le ..) (List.length_take_le ..)
theorem app1 (o n v : List UInt8) (c : UInt8) (hn : n.length ≤ 100) (hv : v.length ≤ 100) : bCells (o ++ itB c ⟨n, v⟩) = bCells o ++ [Value.int .u8 (c.toNat : Nat), Value.int .u8 (IntKind.u8.wrap (n.length : Nat))] ++ bCells n ++ [Value.int .u8 (IntKind.u8.wrap (v.length : Nat))] ++ bCells v := by
  have e : ∀ k : Nat, k ≤ 100 → IntKind.u8.wrap (k : Nat) = ((UInt8.ofNat k).toNat : Nat) := fun k hk => by
    rw [wru8_nat (by omega), ofN k hk]
  rw [e _ hn, e _ hv]
  unfold itB txB0 bCells bVal
  simp
theorem sm_le (L : List Fl) (h : ∀ f ∈ L, okF f) : smN L ≤ 232 * L.length := by
  induction L with
  | nil => exact Nat.le_refl _
  | cons f L ih =>
    have e : smN (f :: L) = fbN f + smN L := by unfold smN; rw [List.map_cons, List.sum_cons]
    have i := ih (fun g hg => h g (List.mem_cons_of_mem _ hg))
    have := h f (List.mem_cons_self ..)
    unfold okF at this
    have fb : fbN f = f.n.length + f.v.length + 32 := rfl
    rw [e, List.length_cons]; omega
theorem take_all {α : Type} (l : List α) (n : Nat) (h : l.length ≤ n) : List.take n l = l := List.take_of_length_le h
theorem N_piece : PieceOk EtN 1 (6, pUn, specN) := by
  refine piece_loop tk.mixed (calls_envT tN_ok) (lok_envT _ _) lm_none (n := 60) (by kernel_rfl) (fun g : GN => (⟨0, [], []⟩ : SN)) (fun g s => s.i ≤ g.l.length ∧ s.i ≤ 20 ∧ s.o = itsB (hdU g.nv) (selU g s.i) ∧ s.W = (selU g s.i).map (fun f => ⟨f, hwU g.nv⟩)) (fun g s => g.l.length - s.i) (sl := slN) (rl := rlN) (fun g hg => ⟨Nat.zero_le _, Nat.zero_le _, rfl, rfl⟩) (fun g s hg hi => ?_)
  refine (N_round g s _ _).mpr ?_
  obtain ⟨i, o, W⟩ := s
  obtain ⟨h1, h2, h3, h4⟩ := hi
  simp only at h1 h2 h3 h4
  refine br_if (fun h => ?_) (fun h => ?_)
  · refine br_if (fun h20 => ?_) (fun h20 => ?_)
    · have hi : i < g.l.length := by have : (i : Int) < (g.l.length : Int) := h; omega
      have h20 : i < 20 := by have : (i : Int) < 20 := h20; omega
      obtain ⟨c0, c1, d0, d1⟩ := fGet g.l i hi
      have w1 : IntKind.i64.wrap ((i : Int) + 1) = ((i + 1 : Nat) : Int) := by rw [wr64_id (by unfold I64; omega)]; omega
      have sk : okB g.l[i] = false → itsB (hdU g.nv) (selU g (i + 1)) = itsB (hdU g.nv) (selU g i) ∧ selU g (i + 1) = selU g i := fun q => by
        have : selU g (i + 1) = selU g i := by unfold selU; rw [List.take_add_one, List.getElem?_eq_getElem hi, Option.toList_some, List.filter_append, show [g.l[i]].filter okB = _ from List.filter_cons ..]; simp [q]
        rw [this]; exact ⟨rfl, rfl⟩
      have tk : okB g.l[i] = true → selU g (i + 1) = selU g i ++ [g.l[i]] := fun q => by
        unfold selU; rw [List.take_add_one, List.getElem?_eq_getElem hi, Option.toList_some, List.filter_append, show [g.l[i]].filter okB = _ from List.filter_cons ..]; simp [q]
      obtain ⟨f, hf⟩ : ∃ f, f = g.l[i] := ⟨_, rfl⟩
      rw [← hf] at c0 c1 d0 d1 sk tk
      simp only [ofNat_eq, toNat_cast, Nat.zero_add, Nat.add_zero, Nat.mul_one, List.drop_zero, bCells_len, bCells_drop, bCells_take, bCells_app, bCells_one, bCells_plain, List.length_replicate, List.length_append, List.length_take, List.length_drop, List.take_length, and_true, true_and, and_self, decide_true, List.length_nil, List.length_cons, Nat.sub_zero, dB_mk, dB_ro, List.take_zero, c0, c1, d0, d1, bs_dd, mapB, bCells_plain, fPl, plW, w1, true_and, and_true]
      have hso := sel_ok g i
      have hsl := sel_len g i
      have hol : o.length ≤ 203 * 20 := by rw [h3]; have := its_le (hdU g.nv) _ hso; omega
      have hWl : W.length ≤ 20 := by rw [h4, List.length_map]; omega
      have wl : (gC enW W).length = W.length * 3 := gC_len (en := enW) (fun _ => rfl) W
      have skip : okB f = false → ∃ j : SN, (j.i ≤ g.l.length ∧ j.i ≤ 20 ∧ j.o = itsB (hdU g.nv) (selU g j.i) ∧ j.W = (selU g j.i).map (fun f => ⟨f, hwU g.nv⟩)) ∧ g.l.length - j.i < g.l.length - i ∧ j.o.length = o.length ∧ j.W.length = W.length ∧ (↑j.i : Int) = ↑(i + 1) ∧ Plain [] ∧ bCells j.o = bCells o ∧ gC enW j.W = gC enW W := fun q => by
        obtain ⟨s1, s2⟩ := sk q
        exact ⟨⟨i + 1, o, W⟩, ⟨by simp only; omega, by simp only; omega, by simp only; rw [s2]; exact h3, by simp only; rw [s2]; exact h4⟩, by simp only; omega, rfl, rfl, rfl, fun v hv => by simp at hv, rfl, rfl⟩
      refine br_dec (by omega) (br_if (fun k1 => skip ?_) (fun k1 => br_dec (by omega) (br_if (fun k2 => skip ?_) (fun k2 => br_intro (fun k3 => ?_) (fun k3 => ?_)))))
      · unfold okB; simp; intro; omega
      · unfold okB; simp; intro; omega
      · have hk := tk (by unfold okB; simp; omega)
        have p1 : ∀ x y, List.take (o.length + 2) (bCells o ++ [x, y]) = bCells o ++ [x, y] := fun x y => take_all _ _ (by simp [bCells_len])
        have p2 : ∀ x y, List.take (o.length + 2 + f.n.length) (bCells o ++ [x, y] ++ bCells f.n) = bCells o ++ [x, y] ++ bCells f.n := fun x y => take_all _ _ (by simp [bCells_len]; omega)
        have p3 : ∀ x y z, List.take (o.length + 2 + f.n.length + 1) (bCells o ++ [x, y] ++ bCells f.n ++ [z]) = bCells o ++ [x, y] ++ bCells f.n ++ [z] := fun x y z => take_all _ _ (by simp [bCells_len]; omega)
        have p4 : List.take (W.length * 3) (gC enW W) = gC enW W := take_all _ _ (by omega)
        simp (disch := omega) only [brD, brT2, wl, p1, p2, p3, p4]
        have hd : hdU g.nv = 16 ∧ hwU g.nv = 3 := by rw [k3]; exact ⟨rfl, rfl⟩
        refine ⟨⟨i + 1, o ++ itB 16 f, W ++ [⟨f, 3⟩]⟩, ⟨by simp only; omega, by simp only; omega, by simp only; rw [hk, its_app, ← h3, hd.1]; simp [itsB], by simp only; rw [hk, List.map_append, ← h4, hd.2]; rfl⟩, by simp only; omega, by simp only [List.length_append, it_len]; omega, by simp, rfl, fun v hv => by simp at hv, ?_, ?_⟩
        · exact app1 o f.n f.v 16 (by omega) (by omega)
        · simp only; rw [← gC_app]; rfl
      · have hk := tk (by unfold okB; simp; omega)
        have p1 : ∀ x y, List.take (o.length + 2) (bCells o ++ [x, y]) = bCells o ++ [x, y] := fun x y => take_all _ _ (by simp [bCells_len])
        have p2 : ∀ x y, List.take (o.length + 2 + f.n.length) (bCells o ++ [x, y] ++ bCells f.n) = bCells o ++ [x, y] ++ bCells f.n := fun x y => take_all _ _ (by simp [bCells_len]; omega)
        have p3 : ∀ x y z, List.take (o.length + 2 + f.n.length + 1) (bCells o ++ [x, y] ++ bCells f.n ++ [z]) = bCells o ++ [x, y] ++ bCells f.n ++ [z] := fun x y z => take_all _ _ (by simp [bCells_len]; omega)
        have p4 : List.take (W.length * 3) (gC enW W) = gC enW W := take_all _ _ (by omega)
        simp (disch := omega) only [brD, brT2, wl, p1, p2, p3, p4]
        have hd : hdU g.nv = 0 ∧ hwU g.nv = 2 := by rw [k3]; exact ⟨rfl, rfl⟩
        refine ⟨⟨i + 1, o ++ itB 0 f, W ++ [⟨f, 2⟩]⟩, ⟨by simp only; omega, by simp only; omega, by simp only; rw [hk, its_app, ← h3, hd.1]; simp [itsB], by simp only; rw [hk, List.map_append, ← h4, hd.2]; rfl⟩, by simp only; omega, by simp only [List.length_append, it_len]; omega, by simp, rfl, fun v hv => by simp at hv, ?_, ?_⟩
        · exact app1 o f.n f.v 0 (by omega) (by omega)
        · simp only; rw [← gC_app]; rfl
    · simp only [ofNat_eq, toNat_cast, Nat.zero_add, Nat.add_zero, Nat.mul_one, List.drop_zero, bCells_len, bCells_drop, bCells_take, bCells_app, bCells_one, bCells_plain, List.length_replicate, List.length_append, List.length_take, List.length_drop, List.take_length, and_true, true_and, and_self, decide_true, List.length_nil, List.length_cons, Nat.sub_zero, dB_mk, dB_ro, List.take_zero, fPl, plW, bCells_plain]
      have h20 : ¬ (i : Int) < 20 := h20
      have e : i = 20 := by omega
      subst e
      exact ⟨⟨20, o, W⟩, ⟨h2, h3, h4⟩, rfl, rfl, fun v hv => by simp at hv, rfl, rfl⟩
  · simp only [ofNat_eq, toNat_cast, Nat.zero_add, Nat.add_zero, Nat.mul_one, List.drop_zero, bCells_len, bCells_drop, bCells_take, bCells_app, bCells_one, bCells_plain, List.length_replicate, List.length_append, List.length_take, List.length_drop, List.take_length, and_true, true_and, and_self, decide_true, List.length_nil, List.length_cons, Nat.sub_zero, dB_mk, dB_ro, List.take_zero, fPl, plW, bCells_plain]
    have h : ¬ (i : Int) < (g.l.length : Int) := h
    have e : selU g i = selU g 20 := by unfold selU; rw [List.take_of_length_le (by omega), List.take_of_length_le (by omega)]
    rw [e] at h3 h4
    exact ⟨⟨i, o, W⟩, ⟨h2, h3, h4⟩, rfl, rfl, fun v hv => by simp at hv, rfl, rfl⟩
theorem N_law (l : List Fl) (nv : Bool) (hl : l.length ≤ maxLen) (ho : ∀ f ∈ l, f.n.length ≤ maxLen ∧ f.v.length ≤ maxLen) : Con Try.prog 6 [.slice (some ⟨0, 0, none⟩) l.length 2, .bool nv] [gRo enF l] (.bool true) [gRo enF l] := by
  refine con_vc (E := EtN) tk.mixed (calls_envT tN_ok) (lok_envT _ _) (M := mN) (lm_one N_piece) (N_vc l nv) ?_
  simp only [ofNat_eq, toNat_cast, Nat.zero_add, Nat.add_zero, Nat.mul_one, List.drop_zero, bCells_len, bCells_drop, bCells_take, bCells_app, bCells_one, bCells_plain, List.length_replicate, List.length_append, List.length_take, List.length_drop, List.take_length, and_true, true_and, and_self, decide_true, List.length_nil, List.length_cons, Nat.sub_zero, dB_mk, dB_ro, List.take_zero, fPl, plW]
  refine ⟨⟨l, nv⟩, hl, rfl, rfl, rfl, fun y hy => ?_⟩
  obtain ⟨y1, y2, y3⟩ := hy
  simp only at y2 y3
  have hh : (hdU nv = 0 ∧ hwU nv = 2) ∨ (hdU nv = 16 ∧ hwU nv = 3) := by cases nv; exact .inl ⟨rfl, rfl⟩; exact .inr ⟨rfl, rfl⟩
  have hso := sel_ok ⟨l, nv⟩ 20
  have hsl := sel_len ⟨l, nv⟩ 20
  have hsm := sm_le _ hso
  obtain ⟨p1, p2, p3, p4⟩ := up_plain 4096 2147483647 (hdU nv) (hwU nv) hh (selU ⟨l, nv⟩ 20) ⟨[], [], 4096⟩ hso (by omega)
  rw [← y2] at p1 p2 p3 p4
  rw [← y3] at p2
  obtain ⟨u1, u2, u3, u4, u5, u6, u7, u8⟩ := ub_mk y.o 4096 2147483647 false [] [] 4096 true (.cells true)
  rw [p1] at u1
  rw [p2] at u2 u3
  rw [p3] at u5 u6 u7 u8
  have hg : gC enF ([] ++ []) = [] := rfl
  have hn0 : ([] : List Fl).length = 0 := rfl
  rw [hg, hn0] at u1 u2 u3 u5 u6 u7 u8
  have hol : y.o.length ≤ 203 * 20 := by rw [y2]; have := its_le (hdU nv) _ hso; omega
  have hWl : y.W.length ≤ 20 := by rw [y3, List.length_map]; omega
  have wl : (gC enW y.W).length = y.W.length * 3 := gC_len (en := enW) (fun _ => rfl) y.W
  have p4 : List.take (y.W.length * 3) (gC enW y.W) = gC enW y.W := take_all _ _ (by omega)
  have hs0 : ((smN [] : Nat) : Int) = 0 := rfl
  have hpn : Plain [] := fun v hv => by simp at hv
  have hB : IsB1 ⟨bCells y.o, true, .cells true⟩ y.o.length := ⟨_, rfl, rfl, by omega⟩
  have hT : IsTs ⟨[], false, .cells true⟩ 0 0 4096 := ⟨[], [], rfl, rfl, rfl, ⟨show (0 : Int) ≤ 4096 by omega, show (0 : Int) ≤ 4096 by omega, show (4096 : Int) ≤ 65536 by omega⟩⟩
  have hS : IsSe ⟨gC enW y.W, true, .cells true⟩ y.W.length := ⟨_, rfl, rfl⟩
  simp only [u1, u2, u3, u5, u6, u7, u8, hg, wl, p4, plW, hpn, saW_mk, sameSe_yes rfl, hB, hT, hS, hn0, hs0, Nat.le_refl, true_and, and_true]
  exact ⟨by unfold TopP; omega, br_b rfl ⟨by omega, br_b rfl (br_b rfl (br_b rfl (br_b rfl trivial)))⟩⟩
end Go.Proofs.Ytellbmbklfbbfaa.up
