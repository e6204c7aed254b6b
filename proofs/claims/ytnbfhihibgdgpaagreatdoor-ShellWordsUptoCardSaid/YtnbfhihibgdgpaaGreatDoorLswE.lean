/- A row read back. -/
import Derived.Test.YtnbfhihibgdgpaaGreatDoorSz9
import Derived.Test.YtnbfhihibgdgpaaGreatDoorRows
import Derived.Test.YtnbfhihibgdgpaaGreatDoorLswD
import Derived.Test.YtnbfhihibgdgpaaGreatDoorLslC
set_option maxRecDepth 20000
set_option linter.unusedSimpArgs false
set_option linter.unusedVariables false
namespace Go.Proofs.YtnbfhihibgdgpaaGreatDoor.sw
open Go Go.Ev Go.Sy Go.RowKit Go.Proofs.YtnbfhihibgdgpaaGreatDoor.gl Go.Proofs.YtnbfhihibgdgpaaGreatDoor.tk Go.Proofs.YtnbfhihibgdgpaaGreatDoor.sl Go.Proofs.YtnbfhihibgdgpaaGreatDoor.cr
def spF (c : UInt8) : List UInt8 → List (List UInt8)
  | [] => [[]]
  | b :: r => if b = c then [] :: spF c r else match spF c r with
    | [] => [[b]]
    | x :: l => (b :: x) :: l
noncomputable def spL : ByteArray → List (List UInt8) := sealV fun s => spF 32 (L s)
noncomputable def spN : ByteArray → Nat := sealV fun s => (spF 32 (L s)).length
noncomputable def p3 : Nat → ByteArray → ByteArray := sealV fun k s => bs ((spF 61 (L s)).getD k [])
def Is3 (s : ByteArray) : Prop := ∃ a b c : List UInt8, s = bs (jn 61 [a, b, c]) ∧ okSp ⟨61, [a, b, c]⟩
def IsSp (s : ByteArray) : Prop := ∃ l, s = bs (jn 32 l) ∧ okSp ⟨32, l⟩
noncomputable def eG3 : EntM := entC 34 fun a r => match a, r with
  | [.string s, .string ⟨⟨[61]⟩⟩, .int .i64 0, .int .i64 (.negSucc 0)], [] => some (Is3 s, .slice (some ⟨0, 0, none⟩) 3 1, [⟨[.string (p3 0 s), .string (p3 1 s), .string (p3 2 s)], false, .cells true⟩])
  | _, _ => none
noncomputable def eGs : EntM := entC 34 fun a r => match a, r with
  | [.string s, .string ⟨⟨[32]⟩⟩, .int .i64 0, .int .i64 (.negSucc 0)], [] => some (IsSp s, .slice (some ⟨0, 0, none⟩) (spN s) 1, [gOwn enS (spL s)])
  | _, _ => none
def IsNm (s : ByteArray) : Prop := ∃ n : Int, s = bs (Lib.itoa n) ∧ I64 n ∧ n ≠ -9223372036854775808
noncomputable def unI : ByteArray → Int := sealV fun s => by
  classical exact if h : IsNm s then Classical.choose h else 0
noncomputable def eRn : EntM := (37, fun a r => match a, r with
  | [.pointer (some ⟨0, 0, none⟩), .string s], [r0, r1] => some (IsRd r0 r1 ∧ IsNm s, .int .i64 (unI s), 2, [(0, r0), (1, r1)])
  | _, _ => none)
noncomputable def tRr : List EntM := [eRw, eRn, eG3]
noncomputable abbrev EtRr : Env := envT Tryz.prog tRr
def rwP (h : Int) (n v : List UInt8) : List UInt8 := jn 61 [Lib.itoa h, wordL n, wordL v]
theorem Rr_vc (l : List (List UInt8)) (a : Nat) (h : Int) (n v : ByteArray) : mcall EtRr noM 100 40 [.pointer (some ⟨0, 0, none⟩)] ⟨mkR (nums 0 (rdL ⟨l, a⟩)), 2⟩ (retIsM 2 (.agg ⟨[.string n, .string v, .int .i64 h]⟩) 2 (rdR ⟨l, a + 1⟩)) =
  (br (!decide ((↑a : Int) < Int.ofNat (List.length l))) ((Value.int IntKind.i64 (↑a : Int) = Value.int IntKind.i64 (↑a : Int)) /\ ((Value.slice (some (Addr.mk 1 0 none))
  (List.length l) 1 = Value.slice (some (Addr.mk 1 0 none)) (List.length l) 1) /\ False)) ((Value.int IntKind.i64 (↑a : Int) = Value.int IntKind.i64 (↑a : Int)) /\
  ((Value.slice (some (Addr.mk 1 0 none)) (List.length l) 1 = Value.slice (some (Addr.mk 1 0 none)) (List.length l) 1) /\ (br (decide ((0 : Int) <= IntKind.wrap IntKind.i64
  (IntKind.wrap IntKind.i64 ((↑a : Int) + (1 : Int)) - (1 : Int)) /\ IntKind.wrap IntKind.i64 (IntKind.wrap IntKind.i64 ((↑a : Int) + (1 : Int)) - (1 : Int)) <
  (↑(List.length l) : Int))) ((Eq (α := Option Value) ((gC enS l)[0 + Int.toNat (IntKind.wrap IntKind.i64 (IntKind.wrap IntKind.i64 ((↑a : Int) + (1 : Int)) - (1 : Int))) *
  1]?) (some (Value.string (cellS (gC enS l) (0 + Int.toNat (IntKind.wrap IntKind.i64 (IntKind.wrap IntKind.i64 ((↑a : Int) + (1 : Int)) - (1 : Int))) * 1))))) /\
  ((Value.slice (some (Addr.mk 1 0 none)) (List.length l) 1 = Value.slice (some (Addr.mk 1 0 none)) (List.length l) 1) /\ ((Value.int IntKind.i64 (IntKind.wrap IntKind.i64
  ((↑a : Int) + (1 : Int))) = Value.int IntKind.i64 (IntKind.wrap IntKind.i64 ((↑a : Int) + (1 : Int)))) /\ ((Eq (α := Option Value) ((gC enS l)[0 + Int.toNat (IntKind.wrap
  IntKind.i64 (IntKind.wrap IntKind.i64 ((↑a : Int) + (1 : Int)) - (1 : Int))) * 1]?) (some (Value.string (cellS (gC enS l) (0 + Int.toNat (IntKind.wrap IntKind.i64
  (IntKind.wrap IntKind.i64 ((↑a : Int) + (1 : Int)) - (1 : Int))) * 1))))) /\ ((Value.string (cellS (gC enS l) (0 + Int.toNat (IntKind.wrap IntKind.i64 (IntKind.wrap
  IntKind.i64 ((↑a : Int) + (1 : Int)) - (1 : Int))) * 1)) = Value.string (cellS (gC enS l) (0 + Int.toNat (IntKind.wrap IntKind.i64 (IntKind.wrap IntKind.i64 ((↑a : Int) +
  (1 : Int)) - (1 : Int))) * 1))) /\ ((((True /\ (True /\ (True /\ (True /\ True)))) /\ (True /\ ((Plain [Value.string (p3 0 (cellS (gC enS l) (0 + Int.toNat (IntKind.wrap
  IntKind.i64 (IntKind.wrap IntKind.i64 ((↑a : Int) + (1 : Int)) - (1 : Int))) * 1))), Value.string (p3 1 (cellS (gC enS l) (0 + Int.toNat (IntKind.wrap IntKind.i64
  (IntKind.wrap IntKind.i64 ((↑a : Int) + (1 : Int)) - (1 : Int))) * 1))), Value.string (p3 2 (cellS (gC enS l) (0 + Int.toNat (IntKind.wrap IntKind.i64 (IntKind.wrap
  IntKind.i64 ((↑a : Int) + (1 : Int)) - (1 : Int))) * 1)))] /\ True) /\ Is3 (cellS (gC enS l) (0 + Int.toNat (IntKind.wrap IntKind.i64 (IntKind.wrap IntKind.i64 ((↑a : Int)
  + (1 : Int)) - (1 : Int))) * 1)))))) /\ ((Eq (α := Option Value) (some (Value.string (p3 1 (cellS (gC enS l) (0 + Int.toNat (IntKind.wrap IntKind.i64 (IntKind.wrap
  IntKind.i64 ((↑a : Int) + (1 : Int)) - (1 : Int))) * 1))))) (some (Value.string (cellS [Value.string (p3 0 (cellS (gC enS l) (0 + Int.toNat (IntKind.wrap IntKind.i64
  (IntKind.wrap IntKind.i64 ((↑a : Int) + (1 : Int)) - (1 : Int))) * 1))), Value.string (p3 1 (cellS (gC enS l) (0 + Int.toNat (IntKind.wrap IntKind.i64 (IntKind.wrap
  IntKind.i64 ((↑a : Int) + (1 : Int)) - (1 : Int))) * 1))), Value.string (p3 2 (cellS (gC enS l) (0 + Int.toNat (IntKind.wrap IntKind.i64 (IntKind.wrap IntKind.i64 ((↑a :
  Int) + (1 : Int)) - (1 : Int))) * 1)))] 1)))) /\ ((((True /\ (True /\ True)) /\ (((True /\ (True /\ True)) /\ (Plain (gC enS l) /\ True)) /\ ((Plain (gC enS l) /\ True) /\
  (IsRd (Row.mk [Value.slice (some (Addr.mk 1 0 none)) (List.length l) 1, Value.int IntKind.i64 (IntKind.wrap IntKind.i64 ((↑a : Int) + (1 : Int)))] false (Ob.cells false))
  (Row.mk (gC enS l) false (Ob.cells true)) /\ IsWd (cellS [Value.string (p3 0 (cellS (gC enS l) (0 + Int.toNat (IntKind.wrap IntKind.i64 (IntKind.wrap IntKind.i64 ((↑a :
  Int) + (1 : Int)) - (1 : Int))) * 1))), Value.string (p3 1 (cellS (gC enS l) (0 + Int.toNat (IntKind.wrap IntKind.i64 (IntKind.wrap IntKind.i64 ((↑a : Int) + (1 : Int)) -
  (1 : Int))) * 1))), Value.string (p3 2 (cellS (gC enS l) (0 + Int.toNat (IntKind.wrap IntKind.i64 (IntKind.wrap IntKind.i64 ((↑a : Int) + (1 : Int)) - (1 : Int))) * 1)))]
  1)))))) /\ ((Eq (α := Option Value) (some (Value.string (p3 2 (cellS (gC enS l) (0 + Int.toNat (IntKind.wrap IntKind.i64 (IntKind.wrap IntKind.i64 ((↑a : Int) + (1 : Int))
  - (1 : Int))) * 1))))) (some (Value.string (cellS [Value.string (p3 0 (cellS (gC enS l) (0 + Int.toNat (IntKind.wrap IntKind.i64 (IntKind.wrap IntKind.i64 ((↑a : Int) + (1
  : Int)) - (1 : Int))) * 1))), Value.string (p3 1 (cellS (gC enS l) (0 + Int.toNat (IntKind.wrap IntKind.i64 (IntKind.wrap IntKind.i64 ((↑a : Int) + (1 : Int)) - (1 :
  Int))) * 1))), Value.string (p3 2 (cellS (gC enS l) (0 + Int.toNat (IntKind.wrap IntKind.i64 (IntKind.wrap IntKind.i64 ((↑a : Int) + (1 : Int)) - (1 : Int))) * 1)))] 2))))
  /\ ((((True /\ (True /\ True)) /\ (((True /\ (True /\ True)) /\ (Plain (gC enS l) /\ True)) /\ ((Plain (gC enS l) /\ True) /\ (IsRd (Row.mk [Value.slice (some (Addr.mk 1 0
  none)) (List.length l) 1, Value.int IntKind.i64 (IntKind.wrap IntKind.i64 ((↑a : Int) + (1 : Int)))] false (Ob.cells false)) (Row.mk (gC enS l) false (Ob.cells true)) /\
  IsWd (cellS [Value.string (p3 0 (cellS (gC enS l) (0 + Int.toNat (IntKind.wrap IntKind.i64 (IntKind.wrap IntKind.i64 ((↑a : Int) + (1 : Int)) - (1 : Int))) * 1))),
  Value.string (p3 1 (cellS (gC enS l) (0 + Int.toNat (IntKind.wrap IntKind.i64 (IntKind.wrap IntKind.i64 ((↑a : Int) + (1 : Int)) - (1 : Int))) * 1))), Value.string (p3 2
  (cellS (gC enS l) (0 + Int.toNat (IntKind.wrap IntKind.i64 (IntKind.wrap IntKind.i64 ((↑a : Int) + (1 : Int)) - (1 : Int))) * 1)))] 2)))))) /\ ((Eq (α := Option Value)
  (some (Value.string (p3 1 (cellS (gC enS l) (0 + Int.toNat (IntKind.wrap IntKind.i64 (IntKind.wrap IntKind.i64 ((↑a : Int) + (1 : Int)) - (1 : Int))) * 1))))) (some
  (Value.string (cellS [Value.string (p3 0 (cellS (gC enS l) (0 + Int.toNat (IntKind.wrap IntKind.i64 (IntKind.wrap IntKind.i64 ((↑a : Int) + (1 : Int)) - (1 : Int))) *
  1))), Value.string (p3 1 (cellS (gC enS l) (0 + Int.toNat (IntKind.wrap IntKind.i64 (IntKind.wrap IntKind.i64 ((↑a : Int) + (1 : Int)) - (1 : Int))) * 1))), Value.string
  (p3 2 (cellS (gC enS l) (0 + Int.toNat (IntKind.wrap IntKind.i64 (IntKind.wrap IntKind.i64 ((↑a : Int) + (1 : Int)) - (1 : Int))) * 1)))] 1)))) /\ ((Value.string (cellS
  [Value.string (p3 0 (cellS (gC enS l) (0 + Int.toNat (IntKind.wrap IntKind.i64 (IntKind.wrap IntKind.i64 ((↑a : Int) + (1 : Int)) - (1 : Int))) * 1))), Value.string (p3 1
  (cellS (gC enS l) (0 + Int.toNat (IntKind.wrap IntKind.i64 (IntKind.wrap IntKind.i64 ((↑a : Int) + (1 : Int)) - (1 : Int))) * 1))), Value.string (p3 2 (cellS (gC enS l) (0
  + Int.toNat (IntKind.wrap IntKind.i64 (IntKind.wrap IntKind.i64 ((↑a : Int) + (1 : Int)) - (1 : Int))) * 1)))] 1) = Value.string (cellS [Value.string (p3 0 (cellS (gC enS
  l) (0 + Int.toNat (IntKind.wrap IntKind.i64 (IntKind.wrap IntKind.i64 ((↑a : Int) + (1 : Int)) - (1 : Int))) * 1))), Value.string (p3 1 (cellS (gC enS l) (0 + Int.toNat
  (IntKind.wrap IntKind.i64 (IntKind.wrap IntKind.i64 ((↑a : Int) + (1 : Int)) - (1 : Int))) * 1))), Value.string (p3 2 (cellS (gC enS l) (0 + Int.toNat (IntKind.wrap
  IntKind.i64 (IntKind.wrap IntKind.i64 ((↑a : Int) + (1 : Int)) - (1 : Int))) * 1)))] 1)) /\ ((Eq (α := Option Value) (some (Value.string (p3 2 (cellS (gC enS l) (0 +
  Int.toNat (IntKind.wrap IntKind.i64 (IntKind.wrap IntKind.i64 ((↑a : Int) + (1 : Int)) - (1 : Int))) * 1))))) (some (Value.string (cellS [Value.string (p3 0 (cellS (gC enS
  l) (0 + Int.toNat (IntKind.wrap IntKind.i64 (IntKind.wrap IntKind.i64 ((↑a : Int) + (1 : Int)) - (1 : Int))) * 1))), Value.string (p3 1 (cellS (gC enS l) (0 + Int.toNat
  (IntKind.wrap IntKind.i64 (IntKind.wrap IntKind.i64 ((↑a : Int) + (1 : Int)) - (1 : Int))) * 1))), Value.string (p3 2 (cellS (gC enS l) (0 + Int.toNat (IntKind.wrap
  IntKind.i64 (IntKind.wrap IntKind.i64 ((↑a : Int) + (1 : Int)) - (1 : Int))) * 1)))] 2)))) /\ ((Value.string (cellS [Value.string (p3 0 (cellS (gC enS l) (0 + Int.toNat
  (IntKind.wrap IntKind.i64 (IntKind.wrap IntKind.i64 ((↑a : Int) + (1 : Int)) - (1 : Int))) * 1))), Value.string (p3 1 (cellS (gC enS l) (0 + Int.toNat (IntKind.wrap
  IntKind.i64 (IntKind.wrap IntKind.i64 ((↑a : Int) + (1 : Int)) - (1 : Int))) * 1))), Value.string (p3 2 (cellS (gC enS l) (0 + Int.toNat (IntKind.wrap IntKind.i64
  (IntKind.wrap IntKind.i64 ((↑a : Int) + (1 : Int)) - (1 : Int))) * 1)))] 2) = Value.string (cellS [Value.string (p3 0 (cellS (gC enS l) (0 + Int.toNat (IntKind.wrap
  IntKind.i64 (IntKind.wrap IntKind.i64 ((↑a : Int) + (1 : Int)) - (1 : Int))) * 1))), Value.string (p3 1 (cellS (gC enS l) (0 + Int.toNat (IntKind.wrap IntKind.i64
  (IntKind.wrap IntKind.i64 ((↑a : Int) + (1 : Int)) - (1 : Int))) * 1))), Value.string (p3 2 (cellS (gC enS l) (0 + Int.toNat (IntKind.wrap IntKind.i64 (IntKind.wrap
  IntKind.i64 ((↑a : Int) + (1 : Int)) - (1 : Int))) * 1)))] 2)) /\ ((Eq (α := Option Value) (some (Value.string (p3 2 (cellS (gC enS l) (0 + Int.toNat (IntKind.wrap
  IntKind.i64 (IntKind.wrap IntKind.i64 ((↑a : Int) + (1 : Int)) - (1 : Int))) * 1))))) (some (Value.string (cellS [Value.string (p3 0 (cellS (gC enS l) (0 + Int.toNat
  (IntKind.wrap IntKind.i64 (IntKind.wrap IntKind.i64 ((↑a : Int) + (1 : Int)) - (1 : Int))) * 1))), Value.string (p3 1 (cellS (gC enS l) (0 + Int.toNat (IntKind.wrap
  IntKind.i64 (IntKind.wrap IntKind.i64 ((↑a : Int) + (1 : Int)) - (1 : Int))) * 1))), Value.string (p3 2 (cellS (gC enS l) (0 + Int.toNat (IntKind.wrap IntKind.i64
  (IntKind.wrap IntKind.i64 ((↑a : Int) + (1 : Int)) - (1 : Int))) * 1)))] 2)))) /\ ((Value.string (cellS [Value.string (p3 0 (cellS (gC enS l) (0 + Int.toNat (IntKind.wrap
  IntKind.i64 (IntKind.wrap IntKind.i64 ((↑a : Int) + (1 : Int)) - (1 : Int))) * 1))), Value.string (p3 1 (cellS (gC enS l) (0 + Int.toNat (IntKind.wrap IntKind.i64
  (IntKind.wrap IntKind.i64 ((↑a : Int) + (1 : Int)) - (1 : Int))) * 1))), Value.string (p3 2 (cellS (gC enS l) (0 + Int.toNat (IntKind.wrap IntKind.i64 (IntKind.wrap
  IntKind.i64 ((↑a : Int) + (1 : Int)) - (1 : Int))) * 1)))] 2) = Value.string (cellS [Value.string (p3 0 (cellS (gC enS l) (0 + Int.toNat (IntKind.wrap IntKind.i64
  (IntKind.wrap IntKind.i64 ((↑a : Int) + (1 : Int)) - (1 : Int))) * 1))), Value.string (p3 1 (cellS (gC enS l) (0 + Int.toNat (IntKind.wrap IntKind.i64 (IntKind.wrap
  IntKind.i64 ((↑a : Int) + (1 : Int)) - (1 : Int))) * 1))), Value.string (p3 2 (cellS (gC enS l) (0 + Int.toNat (IntKind.wrap IntKind.i64 (IntKind.wrap IntKind.i64 ((↑a :
  Int) + (1 : Int)) - (1 : Int))) * 1)))] 2)) /\ ((Eq (α := Option Value) (some (Value.string (p3 0 (cellS (gC enS l) (0 + Int.toNat (IntKind.wrap IntKind.i64 (IntKind.wrap
  IntKind.i64 ((↑a : Int) + (1 : Int)) - (1 : Int))) * 1))))) (some (Value.string (cellS [Value.string (p3 0 (cellS (gC enS l) (0 + Int.toNat (IntKind.wrap IntKind.i64
  (IntKind.wrap IntKind.i64 ((↑a : Int) + (1 : Int)) - (1 : Int))) * 1))), Value.string (p3 1 (cellS (gC enS l) (0 + Int.toNat (IntKind.wrap IntKind.i64 (IntKind.wrap
  IntKind.i64 ((↑a : Int) + (1 : Int)) - (1 : Int))) * 1))), Value.string (p3 2 (cellS (gC enS l) (0 + Int.toNat (IntKind.wrap IntKind.i64 (IntKind.wrap IntKind.i64 ((↑a :
  Int) + (1 : Int)) - (1 : Int))) * 1)))] 0)))) /\ ((((True /\ (True /\ True)) /\ (((True /\ (True /\ True)) /\ (Plain (gC enS l) /\ True)) /\ ((Plain (gC enS l) /\ True) /\
  (IsRd (Row.mk [Value.slice (some (Addr.mk 1 0 none)) (List.length l) 1, Value.int IntKind.i64 (IntKind.wrap IntKind.i64 ((↑a : Int) + (1 : Int)))] false (Ob.cells false))
  (Row.mk (gC enS l) false (Ob.cells true)) /\ IsNm (cellS [Value.string (p3 0 (cellS (gC enS l) (0 + Int.toNat (IntKind.wrap IntKind.i64 (IntKind.wrap IntKind.i64 ((↑a :
  Int) + (1 : Int)) - (1 : Int))) * 1))), Value.string (p3 1 (cellS (gC enS l) (0 + Int.toNat (IntKind.wrap IntKind.i64 (IntKind.wrap IntKind.i64 ((↑a : Int) + (1 : Int)) -
  (1 : Int))) * 1))), Value.string (p3 2 (cellS (gC enS l) (0 + Int.toNat (IntKind.wrap IntKind.i64 (IntKind.wrap IntKind.i64 ((↑a : Int) + (1 : Int)) - (1 : Int))) * 1)))]
  0)))))) /\ ((Value.agg (Array.mk [Value.string (unZ (cellS [Value.string (p3 0 (cellS (gC enS l) (0 + Int.toNat (IntKind.wrap IntKind.i64 (IntKind.wrap IntKind.i64 ((↑a :
  Int) + (1 : Int)) - (1 : Int))) * 1))), Value.string (p3 1 (cellS (gC enS l) (0 + Int.toNat (IntKind.wrap IntKind.i64 (IntKind.wrap IntKind.i64 ((↑a : Int) + (1 : Int)) -
  (1 : Int))) * 1))), Value.string (p3 2 (cellS (gC enS l) (0 + Int.toNat (IntKind.wrap IntKind.i64 (IntKind.wrap IntKind.i64 ((↑a : Int) + (1 : Int)) - (1 : Int))) * 1)))]
  1)), Value.string (unZ (cellS [Value.string (p3 0 (cellS (gC enS l) (0 + Int.toNat (IntKind.wrap IntKind.i64 (IntKind.wrap IntKind.i64 ((↑a : Int) + (1 : Int)) - (1 :
  Int))) * 1))), Value.string (p3 1 (cellS (gC enS l) (0 + Int.toNat (IntKind.wrap IntKind.i64 (IntKind.wrap IntKind.i64 ((↑a : Int) + (1 : Int)) - (1 : Int))) * 1))),
  Value.string (p3 2 (cellS (gC enS l) (0 + Int.toNat (IntKind.wrap IntKind.i64 (IntKind.wrap IntKind.i64 ((↑a : Int) + (1 : Int)) - (1 : Int))) * 1)))] 2))]) = Value.agg
  (Array.mk [Value.string (unZ (cellS [Value.string (p3 0 (cellS (gC enS l) (0 + Int.toNat (IntKind.wrap IntKind.i64 (IntKind.wrap IntKind.i64 ((↑a : Int) + (1 : Int)) - (1
  : Int))) * 1))), Value.string (p3 1 (cellS (gC enS l) (0 + Int.toNat (IntKind.wrap IntKind.i64 (IntKind.wrap IntKind.i64 ((↑a : Int) + (1 : Int)) - (1 : Int))) * 1))),
  Value.string (p3 2 (cellS (gC enS l) (0 + Int.toNat (IntKind.wrap IntKind.i64 (IntKind.wrap IntKind.i64 ((↑a : Int) + (1 : Int)) - (1 : Int))) * 1)))] 1)), Value.string
  (unZ (cellS [Value.string (p3 0 (cellS (gC enS l) (0 + Int.toNat (IntKind.wrap IntKind.i64 (IntKind.wrap IntKind.i64 ((↑a : Int) + (1 : Int)) - (1 : Int))) * 1))),
  Value.string (p3 1 (cellS (gC enS l) (0 + Int.toNat (IntKind.wrap IntKind.i64 (IntKind.wrap IntKind.i64 ((↑a : Int) + (1 : Int)) - (1 : Int))) * 1))), Value.string (p3 2
  (cellS (gC enS l) (0 + Int.toNat (IntKind.wrap IntKind.i64 (IntKind.wrap IntKind.i64 ((↑a : Int) + (1 : Int)) - (1 : Int))) * 1)))] 2))])) /\ ((Value.agg (Array.mk
  [Value.string (unZ (cellS [Value.string (p3 0 (cellS (gC enS l) (0 + Int.toNat (IntKind.wrap IntKind.i64 (IntKind.wrap IntKind.i64 ((↑a : Int) + (1 : Int)) - (1 : Int))) *
  1))), Value.string (p3 1 (cellS (gC enS l) (0 + Int.toNat (IntKind.wrap IntKind.i64 (IntKind.wrap IntKind.i64 ((↑a : Int) + (1 : Int)) - (1 : Int))) * 1))), Value.string
  (p3 2 (cellS (gC enS l) (0 + Int.toNat (IntKind.wrap IntKind.i64 (IntKind.wrap IntKind.i64 ((↑a : Int) + (1 : Int)) - (1 : Int))) * 1)))] 1)), Value.string (unZ (cellS
  [Value.string (p3 0 (cellS (gC enS l) (0 + Int.toNat (IntKind.wrap IntKind.i64 (IntKind.wrap IntKind.i64 ((↑a : Int) + (1 : Int)) - (1 : Int))) * 1))), Value.string (p3 1
  (cellS (gC enS l) (0 + Int.toNat (IntKind.wrap IntKind.i64 (IntKind.wrap IntKind.i64 ((↑a : Int) + (1 : Int)) - (1 : Int))) * 1))), Value.string (p3 2 (cellS (gC enS l) (0
  + Int.toNat (IntKind.wrap IntKind.i64 (IntKind.wrap IntKind.i64 ((↑a : Int) + (1 : Int)) - (1 : Int))) * 1)))] 2))]) = Value.agg (Array.mk [Value.string (unZ (cellS
  [Value.string (p3 0 (cellS (gC enS l) (0 + Int.toNat (IntKind.wrap IntKind.i64 (IntKind.wrap IntKind.i64 ((↑a : Int) + (1 : Int)) - (1 : Int))) * 1))), Value.string (p3 1
  (cellS (gC enS l) (0 + Int.toNat (IntKind.wrap IntKind.i64 (IntKind.wrap IntKind.i64 ((↑a : Int) + (1 : Int)) - (1 : Int))) * 1))), Value.string (p3 2 (cellS (gC enS l) (0
  + Int.toNat (IntKind.wrap IntKind.i64 (IntKind.wrap IntKind.i64 ((↑a : Int) + (1 : Int)) - (1 : Int))) * 1)))] 1)), Value.string (unZ (cellS [Value.string (p3 0 (cellS (gC
  enS l) (0 + Int.toNat (IntKind.wrap IntKind.i64 (IntKind.wrap IntKind.i64 ((↑a : Int) + (1 : Int)) - (1 : Int))) * 1))), Value.string (p3 1 (cellS (gC enS l) (0 +
  Int.toNat (IntKind.wrap IntKind.i64 (IntKind.wrap IntKind.i64 ((↑a : Int) + (1 : Int)) - (1 : Int))) * 1))), Value.string (p3 2 (cellS (gC enS l) (0 + Int.toNat
  (IntKind.wrap IntKind.i64 (IntKind.wrap IntKind.i64 ((↑a : Int) + (1 : Int)) - (1 : Int))) * 1)))] 2))])) /\ ((Eq (α := Option Value) (some (Value.string (p3 0 (cellS (gC
  enS l) (0 + Int.toNat (IntKind.wrap IntKind.i64 (IntKind.wrap IntKind.i64 ((↑a : Int) + (1 : Int)) - (1 : Int))) * 1))))) (some (Value.string (cellS [Value.string (p3 0
  (cellS (gC enS l) (0 + Int.toNat (IntKind.wrap IntKind.i64 (IntKind.wrap IntKind.i64 ((↑a : Int) + (1 : Int)) - (1 : Int))) * 1))), Value.string (p3 1 (cellS (gC enS l) (0
  + Int.toNat (IntKind.wrap IntKind.i64 (IntKind.wrap IntKind.i64 ((↑a : Int) + (1 : Int)) - (1 : Int))) * 1))), Value.string (p3 2 (cellS (gC enS l) (0 + Int.toNat
  (IntKind.wrap IntKind.i64 (IntKind.wrap IntKind.i64 ((↑a : Int) + (1 : Int)) - (1 : Int))) * 1)))] 0)))) /\ ((Value.string (cellS [Value.string (p3 0 (cellS (gC enS l) (0
  + Int.toNat (IntKind.wrap IntKind.i64 (IntKind.wrap IntKind.i64 ((↑a : Int) + (1 : Int)) - (1 : Int))) * 1))), Value.string (p3 1 (cellS (gC enS l) (0 + Int.toNat
  (IntKind.wrap IntKind.i64 (IntKind.wrap IntKind.i64 ((↑a : Int) + (1 : Int)) - (1 : Int))) * 1))), Value.string (p3 2 (cellS (gC enS l) (0 + Int.toNat (IntKind.wrap
  IntKind.i64 (IntKind.wrap IntKind.i64 ((↑a : Int) + (1 : Int)) - (1 : Int))) * 1)))] 0) = Value.string (cellS [Value.string (p3 0 (cellS (gC enS l) (0 + Int.toNat
  (IntKind.wrap IntKind.i64 (IntKind.wrap IntKind.i64 ((↑a : Int) + (1 : Int)) - (1 : Int))) * 1))), Value.string (p3 1 (cellS (gC enS l) (0 + Int.toNat (IntKind.wrap
  IntKind.i64 (IntKind.wrap IntKind.i64 ((↑a : Int) + (1 : Int)) - (1 : Int))) * 1))), Value.string (p3 2 (cellS (gC enS l) (0 + Int.toNat (IntKind.wrap IntKind.i64
  (IntKind.wrap IntKind.i64 ((↑a : Int) + (1 : Int)) - (1 : Int))) * 1)))] 0)) /\ ((n = unZ (cellS [Value.string (p3 0 (cellS (gC enS l) (0 + Int.toNat (IntKind.wrap
  IntKind.i64 (IntKind.wrap IntKind.i64 ((↑a : Int) + (1 : Int)) - (1 : Int))) * 1))), Value.string (p3 1 (cellS (gC enS l) (0 + Int.toNat (IntKind.wrap IntKind.i64
  (IntKind.wrap IntKind.i64 ((↑a : Int) + (1 : Int)) - (1 : Int))) * 1))), Value.string (p3 2 (cellS (gC enS l) (0 + Int.toNat (IntKind.wrap IntKind.i64 (IntKind.wrap
  IntKind.i64 ((↑a : Int) + (1 : Int)) - (1 : Int))) * 1)))] 1)) /\ ((v = unZ (cellS [Value.string (p3 0 (cellS (gC enS l) (0 + Int.toNat (IntKind.wrap IntKind.i64
  (IntKind.wrap IntKind.i64 ((↑a : Int) + (1 : Int)) - (1 : Int))) * 1))), Value.string (p3 1 (cellS (gC enS l) (0 + Int.toNat (IntKind.wrap IntKind.i64 (IntKind.wrap
  IntKind.i64 ((↑a : Int) + (1 : Int)) - (1 : Int))) * 1))), Value.string (p3 2 (cellS (gC enS l) (0 + Int.toNat (IntKind.wrap IntKind.i64 (IntKind.wrap IntKind.i64 ((↑a :
  Int) + (1 : Int)) - (1 : Int))) * 1)))] 2)) /\ ((h = unI (cellS [Value.string (p3 0 (cellS (gC enS l) (0 + Int.toNat (IntKind.wrap IntKind.i64 (IntKind.wrap IntKind.i64
  ((↑a : Int) + (1 : Int)) - (1 : Int))) * 1))), Value.string (p3 1 (cellS (gC enS l) (0 + Int.toNat (IntKind.wrap IntKind.i64 (IntKind.wrap IntKind.i64 ((↑a : Int) + (1 :
  Int)) - (1 : Int))) * 1))), Value.string (p3 2 (cellS (gC enS l) (0 + Int.toNat (IntKind.wrap IntKind.i64 (IntKind.wrap IntKind.i64 ((↑a : Int) + (1 : Int)) - (1 : Int)))
  * 1)))] 0)) /\ ((0 = 0) /\ ((List.length l = List.length l) /\ (((↑a : Int) + (1 : Int) = IntKind.wrap IntKind.i64 ((↑a : Int) + (1 : Int))) /\ ((Eq (α := List Value) (gC
  enS l) (gC enS l)) /\ ((Plain (gC enS l)) /\ True)))))))))))))))))))))))))))))) False)))) := by kernel_rfl
theorem spF_one (c : UInt8) : ∀ x : List UInt8, c ∉ x → spF c x = [x]
  | [], _ => rfl
  | b :: x, h => by
    have h1 : ¬ b = c := fun e => h (by rw [e]; exact List.mem_cons_self ..)
    unfold spF
    rw [if_neg h1, spF_one c x (fun e => h (List.mem_cons_of_mem _ e))]
theorem spF_app (c : UInt8) (r : List UInt8) : ∀ x : List UInt8, c ∉ x → spF c (x ++ c :: r) = x :: spF c r
  | [], _ => by
    show (if c = c then [] :: spF c r else _) = _
    rw [if_pos rfl]
  | b :: x, h => by
    have h1 : ¬ b = c := fun e => h (by rw [e]; exact List.mem_cons_self ..)
    show (if b = c then [] :: spF c (x ++ c :: r) else match spF c (x ++ c :: r) with | [] => [[b]] | x :: l => (b :: x) :: l) = _
    rw [if_neg h1, spF_app c r x (fun e => h (List.mem_cons_of_mem _ e))]
theorem spF_jn (c : UInt8) : ∀ l : List (List UInt8), l ≠ [] → (∀ x ∈ l, c ∉ x) → spF c (jn c l) = l
  | [], h, _ => absurd rfl h
  | [x], _, h => spF_one c x (h x (List.mem_cons_self ..))
  | x :: y :: r, _, h => by
    rw [jn_cons c x (y :: r) (List.cons_ne_nil _ _), spF_app c _ x (h x (List.mem_cons_self ..)), spF_jn c (y :: r) (List.cons_ne_nil _ _) (fun z hz => h z (List.mem_cons_of_mem _ hz))]
theorem p3_eq (a b c : List UInt8) (h : okSp ⟨61, [a, b, c]⟩) : p3 0 (bs (jn 61 [a, b, c])) = bs a ∧ p3 1 (bs (jn 61 [a, b, c])) = bs b ∧ p3 2 (bs (jn 61 [a, b, c])) = bs c := by
  have e : spF 61 (L (bs (jn 61 [a, b, c]))) = [a, b, c] := spF_jn 61 [a, b, c] (List.cons_ne_nil _ _) h.2.2.2
  unfold p3; rw [sealV_eq]
  simp only [e]
  exact ⟨rfl, rfl, rfl⟩
theorem spL_eq (l : List (List UInt8)) (h : okSp ⟨32, l⟩) : spL (bs (jn 32 l)) = l ∧ spN (bs (jn 32 l)) = l.length := by
  have h0 : l ≠ [] := fun e => by have := h.1; simp only [e, List.length_nil] at this; omega
  have e : spF 32 (L (bs (jn 32 l))) = l := spF_jn 32 l h0 h.2.2.2
  unfold spL spN; rw [sealV_eq, sealV_eq]
  simp only [e, and_self]
theorem eG3_ok : EntOk Tryz.prog eG3 := entC_ok (by
  intro a rows p v news h hp
  split at h <;> simp only [Option.some.injEq, Prod.mk.injEq, reduceCtorEq] at h
  obtain ⟨rfl, rfl, rfl⟩ := h
  rename_i s
  obtain ⟨a, b, c, rfl, ok⟩ := hp
  obtain ⟨e0, e1, e2⟩ := p3_eq a b c ok
  rw [e0, e1, e2]
  exact Sb_con [a, b, c] ok)
theorem eGs_ok : EntOk Tryz.prog eGs := entC_ok (by
  intro a rows p v news h hp
  split at h <;> simp only [Option.some.injEq, Prod.mk.injEq, reduceCtorEq] at h
  obtain ⟨rfl, rfl, rfl⟩ := h
  rename_i s
  obtain ⟨l, rfl, ok⟩ := hp
  obtain ⟨e0, e1⟩ := spL_eq l ok
  rw [e0, e1]
  exact Sa_con l ok)
theorem itoa_inj (m n : Int) (h : Lib.itoa m = Lib.itoa n) : m = n := by
  have key : ∀ n : Int, ∃ u : Nat, n.natAbs = u ∧ (n < 0 ∧ Lib.itoa n = 45 :: Lib.decDigits u ∨ 0 ≤ n ∧ Lib.itoa n = Lib.decDigits u) := fun n => by
    refine ⟨n.natAbs, rfl, ?_⟩
    unfold Lib.itoa
    by_cases hn : n < 0
    · exact .inl ⟨hn, if_pos hn⟩
    · refine .inr ⟨by omega, ?_⟩
      rw [if_neg hn]; exact congrArg _ (by omega)
  have hd : ∀ u : Nat, ∃ (c : UInt8) (r : List UInt8), Lib.decDigits u = c :: r ∧ c ≠ 45 := fun u => by
    obtain ⟨c, r, e, _⟩ := dec_head u u (Nat.le_refl _)
    refine ⟨c, r, e, fun h => ?_⟩
    have := (val_dec u u (Nat.le_refl _)).2 c (by rw [e]; exact List.mem_cons_self ..)
    rw [h] at this; exact absurd this.1 (by decide)
  have hv : ∀ u v : Nat, Lib.decDigits u = Lib.decDigits v → u = v := fun u v e => by
    have h1 := (val_dec u u (Nat.le_refl _)).1
    have h2 := (val_dec v v (Nat.le_refl _)).1
    rw [e] at h1; omega
  obtain ⟨u, hu, h1⟩ := key m
  obtain ⟨v, hw, h2⟩ := key n
  rcases h1 with ⟨m0, e1⟩ | ⟨m0, e1⟩ <;> rcases h2 with ⟨n0, e2⟩ | ⟨n0, e2⟩ <;> rw [e1, e2] at h
  · have := hv _ _ (List.cons.inj h).2; omega
  · obtain ⟨c, r, e, ne⟩ := hd v
    rw [e] at h; exact absurd (List.cons.inj h).1.symm ne
  · obtain ⟨c, r, e, ne⟩ := hd u
    rw [e] at h; exact absurd (List.cons.inj h).1 ne
  · have := hv _ _ h; omega
theorem unI_eq (n : Int) (h : I64 n) (h2 : n ≠ -9223372036854775808) : unI (bs (Lib.itoa n)) = n := by
  have hex : IsNm (bs (Lib.itoa n)) := ⟨n, rfl, h, h2⟩
  have hm : bs (Lib.itoa n) = bs (Lib.itoa (Classical.choose hex)) := (Classical.choose_spec hex).1
  unfold unI; rw [sealV_eq]
  refine (dif_pos hex).trans ?_
  exact (itoa_inj _ _ (bs_inj hm)).symm
theorem eRn_ok : EntOk Tryz.prog eRn := by
  intro a rows p v n' rl h hp
  unfold eRn at h
  simp only at h
  split at h <;> simp only [Option.some.injEq, Prod.mk.injEq, reduceCtorEq] at h
  obtain ⟨rfl, rfl, rfl, rfl⟩ := h
  obtain ⟨⟨x, hx⟩, ⟨n, rfl, h1, h2⟩⟩ := hp
  rw [unI_eq n h1 h2]
  have := (Rn_con x n h1 h2).m rfl
  simp only [rdL, List.cons.injEq, and_true] at hx
  obtain ⟨rfl, rfl⟩ := hx
  exact this
theorem tRr_ok : ∀ x ∈ tRr, EntOk Tryz.prog x := all_cons eRw_ok (all_cons eRn_ok (all_cons eG3_ok (all_nil)))
theorem wB_no (x : UInt8) (b : UInt8) : (b = 61 ∨ b = 32) → b ∉ wB x := by
  have h : ∀ n : Fin 256, (61 : UInt8) ∉ wB (UInt8.ofNat n) ∧ (32 : UInt8) ∉ wB (UInt8.ofNat n) := by decide +kernel
  have e : UInt8.ofNat (⟨x.toNat, x.toNat_lt⟩ : Fin 256) = x := UInt8.ofNat_toNat
  have := h ⟨x.toNat, x.toNat_lt⟩
  rw [e] at this
  rintro (rfl | rfl)
  · exact this.1
  · exact this.2
theorem word_no (t : List UInt8) (b : UInt8) (hb : b = 61 ∨ b = 32) : b ∉ wordL t := fun h => by
  unfold wordL at h
  obtain ⟨x, _, hx⟩ := List.mem_flatMap.1 h
  exact wB_no x b hb hx
theorem itoa_no (n : Int) (b : UInt8) (hb : b = 61 ∨ b = 32) : b ∉ Lib.itoa n := fun h => by
  have hd : ∀ u : Nat, b ∉ Lib.decDigits u := fun u hu => by
    have := (val_dec u u (Nat.le_refl _)).2 b hu
    rcases hb with rfl | rfl
    · exact absurd this.2 (by decide)
    · exact absurd this.1 (by decide)
  unfold Lib.itoa at h
  split at h
  · rcases List.mem_cons.1 h with h | h
    · rcases hb with rfl | rfl
      · exact absurd h (by decide)
      · exact absurd h (by decide)
    · exact hd _ h
  · exact hd _ h
theorem rw_ok (h : Int) (n v : List UInt8) (h0 : I64 h) (h1 : n.length ≤ 4000) (h2 : v.length ≤ 4000) : okSp ⟨61, [Lib.itoa h, wordL n, wordL v]⟩ := by
  have i1 := itoa_le _ h0
  have i2 := word_le n
  have i3 := word_le v
  refine ⟨by simp, by simp, ?_, ?_⟩
  · simp only [jn, List.length_append, List.length_cons]; omega
  · intro x hx
    simp only [List.mem_cons, List.not_mem_nil, or_false] at hx
    rcases hx with rfl | rfl | rfl
    · exact itoa_no _ _ (.inl rfl)
    · exact word_no _ _ (.inl rfl)
    · exact word_no _ _ (.inl rfl)
theorem Rr_con (l : List (List UInt8)) (a : Nat) (h : Int) (n v : List UInt8) (ha : a < l.length) (hl : l.length ≤ 100000) (h0 : I64 h) (hm : h ≠ -9223372036854775808) (h1 : n.length ≤ 4000) (h2 : v.length ≤ 4000) (he : l[a] = rwP h n v) :
    ConM Tryz.prog 40 [.pointer (some ⟨0, 0, none⟩)] (rdL ⟨l, a⟩) (.agg ⟨[.string (bs n), .string (bs v), .int .i64 h]⟩) 2 (rdR ⟨l, a + 1⟩) := by
  refine conM_vc (E := EtRr) mixed (calls_envT tRr_ok) (lok_envT _ _) (M := noM) lm_none (Rr_vc l a h (bs n) (bs v)) ?_
  have plS := sPl l
  have w1 : IntKind.i64.wrap ((a : Int) + 1) = ((a + 1 : Nat) : Int) := by rw [wr64_id (by unfold I64; omega)]; omega
  have w2 : IntKind.i64.wrap (((a + 1 : Nat) : Int) - 1) = ((a : Nat) : Int) := by rw [wr64_id (by unfold I64; omega)]; omega
  obtain ⟨s1, s2⟩ := sGet l a ha
  have ok := rw_ok h n v h0 h1 h2
  obtain ⟨e0, e1, e2⟩ := p3_eq _ _ _ ok
  rw [he] at s1 s2
  unfold rwP at s1 s2
  simp only [ofNat_eq, toNat_cast, Nat.zero_add, Nat.add_zero, Nat.mul_one, List.drop_zero, bCells_len, bCells_drop, bCells_take, bCells_app, bCells_one, bCells_plain, List.length_replicate, List.length_append, List.length_take, List.length_drop, List.take_length, and_true, true_and, and_self, decide_true, List.length_nil, List.length_cons, Nat.sub_zero, dB_mk, dB_ro, List.take_zero, w1, w2, s2, e0, e1, e2, unZ_eq, unI_eq h h0 hm]
  have c0 : ∀ x y z : ByteArray, cellS [.string x, .string y, .string z] 0 = x := fun _ _ _ => rfl
  have c1 : ∀ x y z : ByteArray, cellS [.string x, .string y, .string z] 1 = y := fun _ _ _ => rfl
  have c2 : ∀ x y z : ByteArray, cellS [.string x, .string y, .string z] 2 = z := fun _ _ _ => rfl
  have pl3 : ∀ x y z : ByteArray, Plain [.string x, .string y, .string z] := fun x y z v hv => by
    simp only [List.mem_cons, List.not_mem_nil, or_false] at hv
    rcases hv with rfl | rfl | rfl <;> rfl
  have rd : IsRd ⟨[.slice (some ⟨1, 0, none⟩) l.length 1, .int .i64 ((a + 1 : Nat) : Int)], false, .cells false⟩ ⟨gC enS l, false, .cells true⟩ := ⟨⟨l, ((a + 1 : Nat) : Int)⟩, rfl⟩
  simp only [c0, c1, c2, unZ_eq, unI_eq h h0 hm]
  refine br_nb (by rw [Bool.not_eq_false', decide_eq_true_eq]; omega) (br_dec (by omega) ⟨s1, s1, ⟨pl3 _ _ _, _, _, _, rfl, ok⟩, ?_⟩)
  exact ⟨trivial, ⟨plS, plS, rd, n, rfl, h1⟩, trivial, ⟨plS, plS, rd, v, rfl, h2⟩, trivial, trivial, trivial, trivial, ⟨plS, plS, rd, h, rfl, h0, hm⟩, trivial, trivial, trivial, trivial, by omega, plS⟩
end Go.Proofs.YtnbfhihibgdgpaaGreatDoor.sw
