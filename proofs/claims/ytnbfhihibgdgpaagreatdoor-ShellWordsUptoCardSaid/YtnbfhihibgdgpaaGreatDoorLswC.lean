/- The reader's pieces: the next one; a word as a call that is known. -/
import Derived.Test.YtnbfhihibgdgpaaGreatDoorSz9
import Derived.Test.YtnbfhihibgdgpaaGreatDoorRows
import Derived.Test.YtnbfhihibgdgpaaGreatDoorLswB
set_option maxRecDepth 20000
set_option linter.unusedSimpArgs false
set_option linter.unusedVariables false
namespace Go.Proofs.YtnbfhihibgdgpaaGreatDoor.sw
open Go Go.Ev Go.Sy Go.RowKit Go.Proofs.YtnbfhihibgdgpaaGreatDoor.gl Go.Proofs.YtnbfhihibgdgpaaGreatDoor.tk Go.Proofs.YtnbfhihibgdgpaaGreatDoor.sl
noncomputable def unZ : ByteArray → ByteArray := sealV fun s => by
  classical exact if h : ∃ t : List UInt8, s = bs (wordL t) then bs (Classical.choose h) else ⟨#[]⟩
def IsRd (r0 r1 : Row) : Prop := ∃ x : RD, [r0, r1] = rdL x
def IsWd (s : ByteArray) : Prop := ∃ t : List UInt8, s = bs (wordL t) ∧ t.length ≤ 4000
noncomputable def eRw : EntM := (54, fun a r => match a, r with
  | [.pointer (some ⟨0, 0, none⟩), .string s], [r0, r1] => some (IsRd r0 r1 ∧ IsWd s, .string (unZ s), 2, [(0, r0), (1, r1)])
  | _, _ => none)
noncomputable def tRw : List EntM := [eRw]
noncomputable abbrev EtRw : Env := envT Tryz.prog tRw
theorem Rwm_vc (g : GW) : mcall EtSw mRw 60 54 [.pointer (some ⟨0, 0, none⟩), .string (bs (wordL g.t))] ⟨mkR (nums 0 (rdL g.x)), 2⟩ (retIsM 2 (.string (bs g.t)) 2 (rdR g.x)) =
  (∃ g2 : GW, ((List.length g2.2 <= 4000) /\ ((0 = 0) /\ ((bs (wordL g2.2) = bs (wordL g.2)) /\ ((0 = 0) /\ (((↑0 : Int) = (0 : Int)) /\ ((0 = 0) /\ ((List.length g2.1.1 =
  List.length g.1.1) /\ ((g2.1.2 = g.1.2) /\ ((Eq (α := List Value) (gC enS g2.1.1) (gC enS g.1.1)) /\ ((Plain (gC enS g2.1.1)) /\ ((Eq (α := List Value) ([]) ([])) /\ (∀ (y
  : Unit), ((True) → (br (decide (0 + List.length g2.2 <= List.length (bCells g2.2))) ((AllB (List.take (List.length g2.2) (List.drop 0 (bCells g2.2)))) /\ ((bs g.2 =
  ByteArray.mk (Array.mk (List.map bOf (List.take (List.length g2.2) (List.drop 0 (bCells g2.2)))))) /\ ((0 = 0) /\ ((List.length g.1.1 = List.length g2.1.1) /\ ((g.1.2 =
  g2.1.2) /\ ((Eq (α := List Value) (gC enS g.1.1) (gC enS g2.1.1)) /\ ((Plain (gC enS g.1.1)) /\ True))))))) False))))))))))))))) := by kernel_rfl
theorem Tl_vc (l : List (List UInt8)) (a : Nat) (e : Bool) (v : ByteArray) : mcall EtRw noM 100 39 [.pointer (some ⟨0, 0, none⟩)] ⟨mkR (nums 0 (rdL ⟨l, a⟩)), 2⟩ (retIsM 2 (.tuple ⟨[.bool e, .string v]⟩) 2 (rdR ⟨l, a + 2⟩)) =
  (br (!decide ((↑a : Int) < Int.ofNat (List.length l))) ((Value.int IntKind.i64 (↑a : Int) = Value.int IntKind.i64 (↑a : Int)) /\ ((Value.slice (some (Addr.mk 1 0 none))
  (List.length l) 1 = Value.slice (some (Addr.mk 1 0 none)) (List.length l) 1) /\ False)) ((Value.int IntKind.i64 (↑a : Int) = Value.int IntKind.i64 (↑a : Int)) /\
  ((Value.slice (some (Addr.mk 1 0 none)) (List.length l) 1 = Value.slice (some (Addr.mk 1 0 none)) (List.length l) 1) /\ (br (decide ((0 : Int) <= IntKind.wrap IntKind.i64
  (IntKind.wrap IntKind.i64 ((↑a : Int) + (1 : Int)) - (1 : Int)) /\ IntKind.wrap IntKind.i64 (IntKind.wrap IntKind.i64 ((↑a : Int) + (1 : Int)) - (1 : Int)) <
  (↑(List.length l) : Int))) ((Eq (α := Option Value) ((gC enS l)[0 + Int.toNat (IntKind.wrap IntKind.i64 (IntKind.wrap IntKind.i64 ((↑a : Int) + (1 : Int)) - (1 : Int))) *
  1]?) (some (Value.string (cellS (gC enS l) (0 + Int.toNat (IntKind.wrap IntKind.i64 (IntKind.wrap IntKind.i64 ((↑a : Int) + (1 : Int)) - (1 : Int))) * 1))))) /\
  ((Value.slice (some (Addr.mk 1 0 none)) (List.length l) 1 = Value.slice (some (Addr.mk 1 0 none)) (List.length l) 1) /\ ((Value.int IntKind.i64 (IntKind.wrap IntKind.i64
  ((↑a : Int) + (1 : Int))) = Value.int IntKind.i64 (IntKind.wrap IntKind.i64 ((↑a : Int) + (1 : Int)))) /\ ((Eq (α := Option Value) ((gC enS l)[0 + Int.toNat (IntKind.wrap
  IntKind.i64 (IntKind.wrap IntKind.i64 ((↑a : Int) + (1 : Int)) - (1 : Int))) * 1]?) (some (Value.string (cellS (gC enS l) (0 + Int.toNat (IntKind.wrap IntKind.i64
  (IntKind.wrap IntKind.i64 ((↑a : Int) + (1 : Int)) - (1 : Int))) * 1))))) /\ ((Value.string (cellS (gC enS l) (0 + Int.toNat (IntKind.wrap IntKind.i64 (IntKind.wrap
  IntKind.i64 ((↑a : Int) + (1 : Int)) - (1 : Int))) * 1)) = Value.string (cellS (gC enS l) (0 + Int.toNat (IntKind.wrap IntKind.i64 (IntKind.wrap IntKind.i64 ((↑a : Int) +
  (1 : Int)) - (1 : Int))) * 1))) /\ (br (strEq (cellS (gC enS l) (0 + Int.toNat (IntKind.wrap IntKind.i64 (IntKind.wrap IntKind.i64 ((↑a : Int) + (1 : Int)) - (1 : Int))) *
  1)) (ByteArray.mk #[111, 110])) (br (!decide (IntKind.wrap IntKind.i64 ((↑a : Int) + (1 : Int)) < Int.ofNat (List.length l))) ((Value.int IntKind.i64 (IntKind.wrap
  IntKind.i64 ((↑a : Int) + (1 : Int))) = Value.int IntKind.i64 (IntKind.wrap IntKind.i64 ((↑a : Int) + (1 : Int)))) /\ ((Value.slice (some (Addr.mk 1 0 none)) (List.length
  l) 1 = Value.slice (some (Addr.mk 1 0 none)) (List.length l) 1) /\ False)) ((Value.int IntKind.i64 (IntKind.wrap IntKind.i64 ((↑a : Int) + (1 : Int))) = Value.int
  IntKind.i64 (IntKind.wrap IntKind.i64 ((↑a : Int) + (1 : Int)))) /\ ((Value.slice (some (Addr.mk 1 0 none)) (List.length l) 1 = Value.slice (some (Addr.mk 1 0 none))
  (List.length l) 1) /\ (br (decide ((0 : Int) <= IntKind.wrap IntKind.i64 (IntKind.wrap IntKind.i64 (IntKind.wrap IntKind.i64 ((↑a : Int) + (1 : Int)) + (1 : Int)) - (1 :
  Int)) /\ IntKind.wrap IntKind.i64 (IntKind.wrap IntKind.i64 (IntKind.wrap IntKind.i64 ((↑a : Int) + (1 : Int)) + (1 : Int)) - (1 : Int)) < (↑(List.length l) : Int))) ((Eq
  (α := Option Value) ((gC enS l)[0 + Int.toNat (IntKind.wrap IntKind.i64 (IntKind.wrap IntKind.i64 (IntKind.wrap IntKind.i64 ((↑a : Int) + (1 : Int)) + (1 : Int)) - (1 :
  Int))) * 1]?) (some (Value.string (cellS (gC enS l) (0 + Int.toNat (IntKind.wrap IntKind.i64 (IntKind.wrap IntKind.i64 (IntKind.wrap IntKind.i64 ((↑a : Int) + (1 : Int)) +
  (1 : Int)) - (1 : Int))) * 1))))) /\ ((Value.slice (some (Addr.mk 1 0 none)) (List.length l) 1 = Value.slice (some (Addr.mk 1 0 none)) (List.length l) 1) /\ ((Value.int
  IntKind.i64 (IntKind.wrap IntKind.i64 (IntKind.wrap IntKind.i64 ((↑a : Int) + (1 : Int)) + (1 : Int))) = Value.int IntKind.i64 (IntKind.wrap IntKind.i64 (IntKind.wrap
  IntKind.i64 ((↑a : Int) + (1 : Int)) + (1 : Int)))) /\ ((Eq (α := Option Value) ((gC enS l)[0 + Int.toNat (IntKind.wrap IntKind.i64 (IntKind.wrap IntKind.i64 (IntKind.wrap
  IntKind.i64 ((↑a : Int) + (1 : Int)) + (1 : Int)) - (1 : Int))) * 1]?) (some (Value.string (cellS (gC enS l) (0 + Int.toNat (IntKind.wrap IntKind.i64 (IntKind.wrap
  IntKind.i64 (IntKind.wrap IntKind.i64 ((↑a : Int) + (1 : Int)) + (1 : Int)) - (1 : Int))) * 1))))) /\ ((Value.string (cellS (gC enS l) (0 + Int.toNat (IntKind.wrap
  IntKind.i64 (IntKind.wrap IntKind.i64 (IntKind.wrap IntKind.i64 ((↑a : Int) + (1 : Int)) + (1 : Int)) - (1 : Int))) * 1)) = Value.string (cellS (gC enS l) (0 + Int.toNat
  (IntKind.wrap IntKind.i64 (IntKind.wrap IntKind.i64 (IntKind.wrap IntKind.i64 ((↑a : Int) + (1 : Int)) + (1 : Int)) - (1 : Int))) * 1))) /\ (br (decide (Int.ofNat
  (List.length (Array.toList (ByteArray.data (cellS (gC enS l) (0 + Int.toNat (IntKind.wrap IntKind.i64 (IntKind.wrap IntKind.i64 (IntKind.wrap IntKind.i64 ((↑a : Int) + (1
  : Int)) + (1 : Int)) - (1 : Int))) * 1))))) ≥ (1 : Int))) (br (decide ((0 : Int) <= (↑0 : Int) /\ (↑0 : Int) <= Int.ofNat (List.length (Array.toList (ByteArray.data
  (ByteArray.mk #[61])))) /\ (1 : Int) <= (↑(List.length (Array.toList (ByteArray.data (cellS (gC enS l) (0 + Int.toNat (IntKind.wrap IntKind.i64 (IntKind.wrap IntKind.i64
  (IntKind.wrap IntKind.i64 ((↑a : Int) + (1 : Int)) + (1 : Int)) - (1 : Int))) * 1))))) : Int))) (br (!strEq (sub (cellS (gC enS l) (0 + Int.toNat (IntKind.wrap IntKind.i64
  (IntKind.wrap IntKind.i64 (IntKind.wrap IntKind.i64 ((↑a : Int) + (1 : Int)) + (1 : Int)) - (1 : Int))) * 1)) 0 1) (ByteArray.mk #[61])) False (br (decide ((0 : Int) <= (1
  : Int) /\ (1 : Int) <= (↑(List.length (Array.toList (ByteArray.data (cellS (gC enS l) (0 + Int.toNat (IntKind.wrap IntKind.i64 (IntKind.wrap IntKind.i64 (IntKind.wrap
  IntKind.i64 ((↑a : Int) + (1 : Int)) + (1 : Int)) - (1 : Int))) * 1))))) : Int) /\ (↑(List.length (Array.toList (ByteArray.data (cellS (gC enS l) (0 + Int.toNat
  (IntKind.wrap IntKind.i64 (IntKind.wrap IntKind.i64 (IntKind.wrap IntKind.i64 ((↑a : Int) + (1 : Int)) + (1 : Int)) - (1 : Int))) * 1))))) : Int) <= (↑(List.length
  (Array.toList (ByteArray.data (cellS (gC enS l) (0 + Int.toNat (IntKind.wrap IntKind.i64 (IntKind.wrap IntKind.i64 (IntKind.wrap IntKind.i64 ((↑a : Int) + (1 : Int)) + (1
  : Int)) - (1 : Int))) * 1))))) : Int))) ((((True /\ (True /\ True)) /\ (((True /\ (True /\ True)) /\ (Plain (gC enS l) /\ True)) /\ ((Plain (gC enS l) /\ True) /\ (IsRd
  (Row.mk [Value.slice (some (Addr.mk 1 0 none)) (List.length l) 1, Value.int IntKind.i64 (IntKind.wrap IntKind.i64 (IntKind.wrap IntKind.i64 ((↑a : Int) + (1 : Int)) + (1 :
  Int)))] false (Ob.cells false)) (Row.mk (gC enS l) false (Ob.cells true)) /\ IsWd (sub (cellS (gC enS l) (0 + Int.toNat (IntKind.wrap IntKind.i64 (IntKind.wrap IntKind.i64
  (IntKind.wrap IntKind.i64 ((↑a : Int) + (1 : Int)) + (1 : Int)) - (1 : Int))) * 1)) 1 (Int.toNat (↑(List.length (Array.toList (ByteArray.data (cellS (gC enS l) (0 +
  Int.toNat (IntKind.wrap IntKind.i64 (IntKind.wrap IntKind.i64 (IntKind.wrap IntKind.i64 ((↑a : Int) + (1 : Int)) + (1 : Int)) - (1 : Int))) * 1))))) : Int)))))))) /\ ((e =
  strEq (cellS (gC enS l) (0 + Int.toNat (IntKind.wrap IntKind.i64 (IntKind.wrap IntKind.i64 ((↑a : Int) + (1 : Int)) - (1 : Int))) * 1)) (ByteArray.mk #[101, 110, 100])) /\
  ((v = unZ (sub (cellS (gC enS l) (0 + Int.toNat (IntKind.wrap IntKind.i64 (IntKind.wrap IntKind.i64 (IntKind.wrap IntKind.i64 ((↑a : Int) + (1 : Int)) + (1 : Int)) - (1 :
  Int))) * 1)) 1 (Int.toNat (↑(List.length (Array.toList (ByteArray.data (cellS (gC enS l) (0 + Int.toNat (IntKind.wrap IntKind.i64 (IntKind.wrap IntKind.i64 (IntKind.wrap
  IntKind.i64 ((↑a : Int) + (1 : Int)) + (1 : Int)) - (1 : Int))) * 1))))) : Int)))) /\ ((0 = 0) /\ ((List.length l = List.length l) /\ (((↑a : Int) + (2 : Int) =
  IntKind.wrap IntKind.i64 (IntKind.wrap IntKind.i64 ((↑a : Int) + (1 : Int)) + (1 : Int))) /\ ((Eq (α := List Value) (gC enS l) (gC enS l)) /\ ((Plain (gC enS l)) /\
  True)))))))) False)) False) False)))))) False)))) (br (!strEq (cellS (gC enS l) (0 + Int.toNat (IntKind.wrap IntKind.i64 (IntKind.wrap IntKind.i64 ((↑a : Int) + (1 : Int))
  - (1 : Int))) * 1)) (ByteArray.mk #[101, 110, 100])) False (br (!decide (IntKind.wrap IntKind.i64 ((↑a : Int) + (1 : Int)) < Int.ofNat (List.length l))) ((Value.int
  IntKind.i64 (IntKind.wrap IntKind.i64 ((↑a : Int) + (1 : Int))) = Value.int IntKind.i64 (IntKind.wrap IntKind.i64 ((↑a : Int) + (1 : Int)))) /\ ((Value.slice (some
  (Addr.mk 1 0 none)) (List.length l) 1 = Value.slice (some (Addr.mk 1 0 none)) (List.length l) 1) /\ False)) ((Value.int IntKind.i64 (IntKind.wrap IntKind.i64 ((↑a : Int) +
  (1 : Int))) = Value.int IntKind.i64 (IntKind.wrap IntKind.i64 ((↑a : Int) + (1 : Int)))) /\ ((Value.slice (some (Addr.mk 1 0 none)) (List.length l) 1 = Value.slice (some
  (Addr.mk 1 0 none)) (List.length l) 1) /\ (br (decide ((0 : Int) <= IntKind.wrap IntKind.i64 (IntKind.wrap IntKind.i64 (IntKind.wrap IntKind.i64 ((↑a : Int) + (1 : Int)) +
  (1 : Int)) - (1 : Int)) /\ IntKind.wrap IntKind.i64 (IntKind.wrap IntKind.i64 (IntKind.wrap IntKind.i64 ((↑a : Int) + (1 : Int)) + (1 : Int)) - (1 : Int)) < (↑(List.length
  l) : Int))) ((Eq (α := Option Value) ((gC enS l)[0 + Int.toNat (IntKind.wrap IntKind.i64 (IntKind.wrap IntKind.i64 (IntKind.wrap IntKind.i64 ((↑a : Int) + (1 : Int)) + (1
  : Int)) - (1 : Int))) * 1]?) (some (Value.string (cellS (gC enS l) (0 + Int.toNat (IntKind.wrap IntKind.i64 (IntKind.wrap IntKind.i64 (IntKind.wrap IntKind.i64 ((↑a : Int)
  + (1 : Int)) + (1 : Int)) - (1 : Int))) * 1))))) /\ ((Value.slice (some (Addr.mk 1 0 none)) (List.length l) 1 = Value.slice (some (Addr.mk 1 0 none)) (List.length l) 1) /\
  ((Value.int IntKind.i64 (IntKind.wrap IntKind.i64 (IntKind.wrap IntKind.i64 ((↑a : Int) + (1 : Int)) + (1 : Int))) = Value.int IntKind.i64 (IntKind.wrap IntKind.i64
  (IntKind.wrap IntKind.i64 ((↑a : Int) + (1 : Int)) + (1 : Int)))) /\ ((Eq (α := Option Value) ((gC enS l)[0 + Int.toNat (IntKind.wrap IntKind.i64 (IntKind.wrap IntKind.i64
  (IntKind.wrap IntKind.i64 ((↑a : Int) + (1 : Int)) + (1 : Int)) - (1 : Int))) * 1]?) (some (Value.string (cellS (gC enS l) (0 + Int.toNat (IntKind.wrap IntKind.i64
  (IntKind.wrap IntKind.i64 (IntKind.wrap IntKind.i64 ((↑a : Int) + (1 : Int)) + (1 : Int)) - (1 : Int))) * 1))))) /\ ((Value.string (cellS (gC enS l) (0 + Int.toNat
  (IntKind.wrap IntKind.i64 (IntKind.wrap IntKind.i64 (IntKind.wrap IntKind.i64 ((↑a : Int) + (1 : Int)) + (1 : Int)) - (1 : Int))) * 1)) = Value.string (cellS (gC enS l) (0
  + Int.toNat (IntKind.wrap IntKind.i64 (IntKind.wrap IntKind.i64 (IntKind.wrap IntKind.i64 ((↑a : Int) + (1 : Int)) + (1 : Int)) - (1 : Int))) * 1))) /\ (br (decide
  (Int.ofNat (List.length (Array.toList (ByteArray.data (cellS (gC enS l) (0 + Int.toNat (IntKind.wrap IntKind.i64 (IntKind.wrap IntKind.i64 (IntKind.wrap IntKind.i64 ((↑a :
  Int) + (1 : Int)) + (1 : Int)) - (1 : Int))) * 1))))) ≥ (1 : Int))) (br (decide ((0 : Int) <= (↑0 : Int) /\ (↑0 : Int) <= Int.ofNat (List.length (Array.toList
  (ByteArray.data (ByteArray.mk #[61])))) /\ (1 : Int) <= (↑(List.length (Array.toList (ByteArray.data (cellS (gC enS l) (0 + Int.toNat (IntKind.wrap IntKind.i64
  (IntKind.wrap IntKind.i64 (IntKind.wrap IntKind.i64 ((↑a : Int) + (1 : Int)) + (1 : Int)) - (1 : Int))) * 1))))) : Int))) (br (!strEq (sub (cellS (gC enS l) (0 + Int.toNat
  (IntKind.wrap IntKind.i64 (IntKind.wrap IntKind.i64 (IntKind.wrap IntKind.i64 ((↑a : Int) + (1 : Int)) + (1 : Int)) - (1 : Int))) * 1)) 0 1) (ByteArray.mk #[61])) False
  (br (decide ((0 : Int) <= (1 : Int) /\ (1 : Int) <= (↑(List.length (Array.toList (ByteArray.data (cellS (gC enS l) (0 + Int.toNat (IntKind.wrap IntKind.i64 (IntKind.wrap
  IntKind.i64 (IntKind.wrap IntKind.i64 ((↑a : Int) + (1 : Int)) + (1 : Int)) - (1 : Int))) * 1))))) : Int) /\ (↑(List.length (Array.toList (ByteArray.data (cellS (gC enS l)
  (0 + Int.toNat (IntKind.wrap IntKind.i64 (IntKind.wrap IntKind.i64 (IntKind.wrap IntKind.i64 ((↑a : Int) + (1 : Int)) + (1 : Int)) - (1 : Int))) * 1))))) : Int) <=
  (↑(List.length (Array.toList (ByteArray.data (cellS (gC enS l) (0 + Int.toNat (IntKind.wrap IntKind.i64 (IntKind.wrap IntKind.i64 (IntKind.wrap IntKind.i64 ((↑a : Int) +
  (1 : Int)) + (1 : Int)) - (1 : Int))) * 1))))) : Int))) ((((True /\ (True /\ True)) /\ (((True /\ (True /\ True)) /\ (Plain (gC enS l) /\ True)) /\ ((Plain (gC enS l) /\
  True) /\ (IsRd (Row.mk [Value.slice (some (Addr.mk 1 0 none)) (List.length l) 1, Value.int IntKind.i64 (IntKind.wrap IntKind.i64 (IntKind.wrap IntKind.i64 ((↑a : Int) + (1
  : Int)) + (1 : Int)))] false (Ob.cells false)) (Row.mk (gC enS l) false (Ob.cells true)) /\ IsWd (sub (cellS (gC enS l) (0 + Int.toNat (IntKind.wrap IntKind.i64
  (IntKind.wrap IntKind.i64 (IntKind.wrap IntKind.i64 ((↑a : Int) + (1 : Int)) + (1 : Int)) - (1 : Int))) * 1)) 1 (Int.toNat (↑(List.length (Array.toList (ByteArray.data
  (cellS (gC enS l) (0 + Int.toNat (IntKind.wrap IntKind.i64 (IntKind.wrap IntKind.i64 (IntKind.wrap IntKind.i64 ((↑a : Int) + (1 : Int)) + (1 : Int)) - (1 : Int))) * 1)))))
  : Int)))))))) /\ ((e = strEq (cellS (gC enS l) (0 + Int.toNat (IntKind.wrap IntKind.i64 (IntKind.wrap IntKind.i64 ((↑a : Int) + (1 : Int)) - (1 : Int))) * 1))
  (ByteArray.mk #[101, 110, 100])) /\ ((v = unZ (sub (cellS (gC enS l) (0 + Int.toNat (IntKind.wrap IntKind.i64 (IntKind.wrap IntKind.i64 (IntKind.wrap IntKind.i64 ((↑a :
  Int) + (1 : Int)) + (1 : Int)) - (1 : Int))) * 1)) 1 (Int.toNat (↑(List.length (Array.toList (ByteArray.data (cellS (gC enS l) (0 + Int.toNat (IntKind.wrap IntKind.i64
  (IntKind.wrap IntKind.i64 (IntKind.wrap IntKind.i64 ((↑a : Int) + (1 : Int)) + (1 : Int)) - (1 : Int))) * 1))))) : Int)))) /\ ((0 = 0) /\ ((List.length l = List.length l)
  /\ (((↑a : Int) + (2 : Int) = IntKind.wrap IntKind.i64 (IntKind.wrap IntKind.i64 ((↑a : Int) + (1 : Int)) + (1 : Int))) /\ ((Eq (α := List Value) (gC enS l) (gC enS l)) /\
  ((Plain (gC enS l)) /\ True)))))))) False)) False) False)))))) False))))))))))) False)))) := by kernel_rfl
theorem wB_split (c c' : UInt8) (r r' : List UInt8) (h : wB c ++ r = wB c' ++ r') : c = c' ∧ r = r' := by
  obtain ⟨o1, o2, o3⟩ := of17 c
  obtain ⟨p1, p2, p3⟩ := of17 c'
  have n37 : codB 37 = true := by decide
  unfold wB at h
  by_cases hc : codB c = true <;> by_cases hc' : codB c' = true
  · rw [if_pos hc, if_pos hc'] at h
    simp only [List.cons_append, List.nil_append, List.cons.injEq, true_and] at h
    obtain ⟨h1, h2, h3⟩ := h
    rw [h1] at o1; rw [h2] at o2
    rw [o1] at p1; rw [o2] at p2
    refine ⟨UInt8.toNat_inj.1 (by omega), h3⟩
  · rw [if_pos hc, if_neg hc'] at h
    simp only [List.cons_append, List.nil_append, List.cons.injEq] at h
    rw [← h.1] at hc'; exact absurd n37 hc'
  · rw [if_neg hc, if_pos hc'] at h
    simp only [List.cons_append, List.nil_append, List.cons.injEq] at h
    rw [h.1] at hc; exact absurd n37 hc
  · rw [if_neg hc, if_neg hc'] at h
    simp only [List.cons_append, List.nil_append, List.cons.injEq] at h
    exact h
theorem wB_ne (c : UInt8) : wB c ≠ [] := by unfold wB; split <;> simp
theorem word_inj : ∀ a b : List UInt8, wordL a = wordL b → a = b
  | [], [], _ => rfl
  | [], c :: b, h => by
    have h : [] = wB c ++ wordL b := h
    exact absurd (List.append_eq_nil_iff.1 h.symm).1 (wB_ne c)
  | c :: a, [], h => by
    have h : wB c ++ wordL a = [] := h
    exact absurd (List.append_eq_nil_iff.1 h).1 (wB_ne c)
  | c :: a, d :: b, h => by
    have h : wB c ++ wordL a = wB d ++ wordL b := h
    obtain ⟨h1, h2⟩ := wB_split c d _ _ h
    rw [h1, word_inj a b h2]
theorem bs_inj {a b : List UInt8} (h : bs a = bs b) : a = b := congrArg (fun x : ByteArray => x.data.toList) h
theorem unZ_eq (t : List UInt8) : unZ (bs (wordL t)) = bs t := by
  have hex : ∃ u : List UInt8, bs (wordL t) = bs (wordL u) := ⟨t, rfl⟩
  have hm : bs (wordL t) = bs (wordL (Classical.choose hex)) := Classical.choose_spec hex
  unfold unZ; rw [sealV_eq]
  refine (dif_pos hex).trans ?_
  rw [← word_inj _ _ (bs_inj hm)]
theorem sGet (l : List (List UInt8)) (i : Nat) (h : i < l.length) : (gC enS l)[i]? = some (.string (bs l[i])) ∧ cellS (gC enS l) i = bs l[i] := by
  have h0 := gC_get (en := enS) (k := 1) (fun _ => rfl) l i 0 h (by omega)
  rw [Nat.mul_one, Nat.add_zero] at h0
  refine ⟨h0, ?_⟩
  unfold cellS; rw [show (gC enS l)[i]? = _ from h0]; rfl
theorem Rwm_con (g : GW) (h : g.t.length ≤ 4000) : ConM Tryz.prog 54 [.pointer (some ⟨0, 0, none⟩), .string (bs (wordL g.t))] (rdL g.x) (.string (bs g.t)) 2 (rdR g.x) := by
  refine conM_vc (E := EtSw) mixed (calls_envT tSw_ok) (lok_envT _ _) (M := mRw) (lm_one Rw_piece) (Rwm_vc g) ?_
  have plS : Plain (gC enS g.x.l) := gC_plain (by intro a v hv; simp [enS] at hv; rw [hv]; rfl) _
  simp only [ofNat_eq, toNat_cast, Nat.zero_add, Nat.add_zero, Nat.mul_one, List.drop_zero, bCells_len, bCells_drop, bCells_take, bCells_app, bCells_one, bCells_plain, List.length_replicate, List.length_append, List.length_take, List.length_drop, List.take_length, and_true, true_and, and_self, decide_true, List.length_nil, List.length_cons, Nat.sub_zero, dB_mk, dB_ro, List.take_zero]
  exact ⟨g, h, rfl, rfl, rfl, rfl, plS, fun _ _ => br_dec (Nat.le_refl _) ⟨bCells_all _, by rw [bCells_bOf]; rfl, rfl, rfl, rfl, plS⟩⟩
theorem eRw_ok : EntOk Tryz.prog eRw := by
  intro a rows p v n' rl h hp
  unfold eRw at h
  simp only at h
  split at h <;> simp only [Option.some.injEq, Prod.mk.injEq, reduceCtorEq] at h
  obtain ⟨rfl, rfl, rfl, rfl⟩ := h
  obtain ⟨⟨x, hx⟩, ⟨t, rfl, ht⟩⟩ := hp
  rw [unZ_eq]
  have := Rwm_con ⟨x, t⟩ ht
  simp only [rdL, List.cons.injEq, and_true] at hx
  obtain ⟨rfl, rfl⟩ := hx
  exact this
theorem tRw_ok : ∀ x ∈ tRw, EntOk Tryz.prog x := all_cons eRw_ok (all_nil)
theorem Tl_con (l : List (List UInt8)) (a : Nat) (e : Bool) (t : List UInt8) (h : a + 1 < l.length) (hl : l.length ≤ 100000) (ht : t.length ≤ 4000) (h0 : l[a] = if e = true then [101, 110, 100] else [111, 110]) (h1 : l[a + 1] = 61 :: wordL t) :
    ConM Tryz.prog 39 [.pointer (some ⟨0, 0, none⟩)] (rdL ⟨l, a⟩) (.tuple ⟨[.bool e, .string (bs t)]⟩) 2 (rdR ⟨l, a + 2⟩) := by
  refine conM_vc (E := EtRw) mixed (calls_envT tRw_ok) (lok_envT _ _) (M := noM) lm_none (Tl_vc l a e _) ?_
  have plS : Plain (gC enS l) := gC_plain (by intro a v hv; simp [enS] at hv; rw [hv]; rfl) _
  have w1 : IntKind.i64.wrap ((a : Int) + 1) = ((a + 1 : Nat) : Int) := by rw [wr64_id (by unfold I64; omega)]; omega
  have w2 : IntKind.i64.wrap (((a + 1 : Nat) : Int) - 1) = ((a : Nat) : Int) := by rw [wr64_id (by unfold I64; omega)]; omega
  have w3 : IntKind.i64.wrap (((a + 1 : Nat) : Int) + 1) = ((a + 2 : Nat) : Int) := by rw [wr64_id (by unfold I64; omega)]; omega
  have w4 : IntKind.i64.wrap (((a + 2 : Nat) : Int) - 1) = ((a + 1 : Nat) : Int) := by rw [wr64_id (by unfold I64; omega)]; omega
  obtain ⟨s1, s2⟩ := sGet l a (by omega)
  obtain ⟨s3, s4⟩ := sGet l (a + 1) h
  simp only [ofNat_eq, toNat_cast, Nat.zero_add, Nat.add_zero, Nat.mul_one, List.drop_zero, bCells_len, bCells_drop, bCells_take, bCells_app, bCells_one, bCells_plain, List.length_replicate, List.length_append, List.length_take, List.length_drop, List.take_length, and_true, true_and, and_self, decide_true, List.length_nil, List.length_cons, Nat.sub_zero, dB_mk, dB_ro, List.take_zero, w1, w2, w3, w4]
  have k1 : ∀ W : List UInt8, strEq (sub (bs (61 :: W)) 0 1) ⟨#[61]⟩ = true := fun W => by
    show strEq (bs [61]) (bs [61]) = true
    rw [strEq_bs]; exact decide_eq_true rfl
  have k2 : ∀ W : List UInt8, sub (bs (61 :: W)) 1 (bs (61 :: W)).data.toList.length = bs W := fun W => by
    show bs (W.take (W.length + 1 - 1)) = _
    rw [Nat.add_sub_cancel, List.take_length]
  have k3 : ∀ W : List UInt8, (bs (61 :: W)).data.toList.length = W.length + 1 := fun _ => rfl
  rw [h0] at s1 s2
  rw [h1] at s3 s4
  have rd : IsRd ⟨[.slice (some ⟨1, 0, none⟩) l.length 1, .int .i64 ((a + 2 : Nat) : Int)], false, .cells false⟩ ⟨gC enS l, false, .cells true⟩ := ⟨⟨l, ((a + 2 : Nat) : Int)⟩, rfl⟩
  have wd : IsWd (bs (wordL t)) := ⟨t, rfl, ht⟩
  have q1 : strEq (bs [111, 110]) ⟨#[111, 110]⟩ = true := by show strEq (bs [111, 110]) (bs [111, 110]) = true; rw [strEq_bs]; exact decide_eq_true rfl
  have q2 : strEq (bs [101, 110, 100]) ⟨#[111, 110]⟩ = false := by show strEq (bs [101, 110, 100]) (bs [111, 110]) = false; rw [strEq_bs]; exact decide_eq_false (by decide)
  have q3 : strEq (bs [101, 110, 100]) ⟨#[101, 110, 100]⟩ = true := by show strEq (bs [101, 110, 100]) (bs [101, 110, 100]) = true; rw [strEq_bs]; exact decide_eq_true rfl
  have q4 : strEq (bs [111, 110]) ⟨#[101, 110, 100]⟩ = false := by show strEq (bs [111, 110]) (bs [101, 110, 100]) = false; rw [strEq_bs]; exact decide_eq_false (by decide)
  simp only [s2, s4, k1, k2, unZ_eq]
  cases e <;> simp only [if_true, if_false, Bool.false_eq_true, reduceIte, q1, q2, q3, q4, k3] at s1 ⊢
  all_goals
    repeat' first
      | refine br_dec (by omega) ?_
      | refine br_b rfl ?_
      | refine br_nb (by rw [Bool.not_eq_false', decide_eq_true_eq]; omega) ?_
      | refine br_nb rfl ?_
      | refine And.intro s1 ?_
      | refine And.intro s3 ?_
      | fail
    first
      | exact ⟨⟨plS, plS, rd, wd⟩, trivial, trivial, by omega, plS⟩
      | exact ⟨⟨plS, plS, rd, wd⟩, rfl, rfl, by omega, plS⟩
end Go.Proofs.YtnbfhihibgdgpaaGreatDoor.sw
