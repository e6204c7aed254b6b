/- The reader's step, of an answer's line. -/
import Derived.Test.YtnbfhihibgdgpaaGreatDoorSz9
import Derived.Test.YtnbfhihibgdgpaaGreatDoorRows
import Derived.Test.YtnbfhihibgdgpaaGreatDoorLswE
set_option maxRecDepth 20000
set_option linter.unusedSimpArgs false
set_option linter.unusedVariables false
namespace Go.Proofs.YtnbfhihibgdgpaaGreatDoor.sw
open Go Go.Ev Go.Sy Go.RowKit Go.Proofs.YtnbfhihibgdgpaaGreatDoor.gl Go.Proofs.YtnbfhihibgdgpaaGreatDoor.tk Go.Proofs.YtnbfhihibgdgpaaGreatDoor.sl Go.Proofs.YtnbfhihibgdgpaaGreatDoor.cr Go.Proofs.YtnbfhihibgdgpaaGreatDoor.sn
structure PG where
  a : Int
  c : Int
  e : Bool
  t : List UInt8
  l : List Rw
  p : List (List UInt8)
def endP (e : Bool) : List UInt8 := if e = true then [101, 110, 100] else [111, 110]
def pcs (g : PG) : List (List UInt8) := [97, 110, 115, 119, 101, 114] :: Lib.itoa g.a :: Lib.itoa g.c :: endP g.e :: (61 :: wordL g.t) :: g.l.map fun r => rwP r.h r.n r.v
def noMinP (n : Int) : Prop := I64 n ∧ n ≠ -9223372036854775808
def okP (g : PG) : Prop := g.p = pcs g ∧ noMinP g.a ∧ noMinP g.c ∧ g.t.length ≤ 4000 ∧ g.l.length ≤ 1000 ∧ ∀ r ∈ g.l, noMinP r.h ∧ r.n.length ≤ 4000 ∧ r.v.length ≤ 4000
def IsPc (r1 : Row) (n : Nat) : Prop := ∃ g, r1 = gOwn enS g.p ∧ n = g.p.length ∧ okP g
noncomputable def pcE : Row → Bool := sl.sealV fun r => decide ((decS r.cells).getD 3 [] = [101, 110, 100])
noncomputable def pcT : Row → ByteArray := sl.sealV fun r => unZ (bs ((decS r.cells).getD 4 []).tail)
noncomputable def pcN : Row → Int → ByteArray := sl.sealV fun r k => unZ (p3 1 (bs ((decS r.cells).getD k.toNat [])))
noncomputable def pcV : Row → Int → ByteArray := sl.sealV fun r k => unZ (p3 2 (bs ((decS r.cells).getD k.toNat [])))
noncomputable def pcH : Row → Int → Int := sl.sealV fun r k => unI (p3 0 (bs ((decS r.cells).getD k.toNat [])))
noncomputable def eKd : EntM := (36, fun a r => match a, r with
  | [.pointer (some ⟨0, 0, none⟩)], [⟨[.slice (some ⟨1, 0, none⟩) n 1, .int .i64 (.ofNat 0)], false, .cells false⟩, r1] => some (IsPc r1 n, .tuple ⟨[.int .i64 6, .string ⟨#[110, 115, 116, 114]⟩]⟩, 2, [(0, ⟨[.slice (some ⟨1, 0, none⟩) n 1, .int .i64 1], false, .cells false⟩), (1, r1)])
  | _, _ => none)
noncomputable def eTl : EntM := (39, fun a r => match a, r with
  | [.pointer (some ⟨0, 0, none⟩)], [⟨[.slice (some ⟨1, 0, none⟩) n 1, .int .i64 (.ofNat 3)], false, .cells false⟩, r1] => some (IsPc r1 n, .tuple ⟨[.bool (pcE r1), .string (pcT r1)]⟩, 2, [(0, ⟨[.slice (some ⟨1, 0, none⟩) n 1, .int .i64 5], false, .cells false⟩), (1, r1)])
  | _, _ => none)
noncomputable def eRr : EntM := (40, fun a r => match a, r with
  | [.pointer (some ⟨0, 0, none⟩)], [⟨[.slice (some ⟨1, 0, none⟩) n 1, .int .i64 k], false, .cells false⟩, r1] => some (IsPc r1 n ∧ 5 ≤ k ∧ k < (n : Nat), .agg ⟨[.string (pcN r1 k), .string (pcV r1 k), .int .i64 (pcH r1 k)]⟩, 2, [(0, ⟨[.slice (some ⟨1, 0, none⟩) n 1, .int .i64 (k + 1)], false, .cells false⟩), (1, r1)])
  | _, _ => none)
noncomputable def tSt : List EntM := [eKd, eTl, eRr, eRn]
noncomputable abbrev EtSt : Env := envT Tryz.prog tSt
def pSt : List Nat := [0, 0, 1, 1, 1, 1, 1, 1, 1, 1, 1, 0, 1, 1, 0, 1, 1, 0, 0, 1, 0, 1, 1, 1]
def slSt : List (Nat × Value) := [(0, .pointer (some ⟨0, 0, none⟩)), (2, .pointer (some ⟨2, 0, none⟩)), (5, .pointer (some ⟨3, 0, none⟩)), (16, .pointer (some ⟨4, 0, none⟩))]
noncomputable def rlSt (g : PG) (i : Nat) : List (Nat × Row) := [(0, ⟨[.slice (some ⟨1, 0, none⟩) g.p.length 1, .int .i64 ((5 + i : Nat) : Nat)], false, .cells false⟩), (1, gOwn enS g.p), (2, ⟨[.int .i64 0, .int .i64 0, .int .i64 0, .int .i64 0, .slice none 0 0, .string ⟨#[]⟩, .bool false], false, .cells false⟩), (3, ⟨[.int .i64 6, .int .i64 g.a, .int .i64 0, .int .i64 g.c, .slice (some ⟨5, 0, none⟩) i 3, .string (bs g.t), .bool g.e], false, .cells false⟩), (4, ⟨[.string ⟨#[110, 115, 116, 114]⟩, .int .i64 4], false, .iter⟩), (5, gOwn enR (g.l.take i))]
noncomputable def wsSt (g : PG) : List (Gate Unit) := [⟨.exit 3, fun _ => True, fun _ => slSt, fun _ => rlSt g g.l.length, 53⟩]
noncomputable def specSt : Sy.Spec := specOf 2 53 83 okP (fun _ => slSt) (fun g => rlSt g 0) wsSt
noncomputable def mSt := mOf [(21, pSt, specSt)]
noncomputable def stR (g : PG) : List (Nat × Row) := [(0, ⟨[.slice (some ⟨1, 0, none⟩) g.p.length 1, .int .i64 (g.p.length : Nat)], false, .cells false⟩), (1, gOwn enS g.p), (2, gOwn enR g.l)]
def stV (g : PG) : Value := .agg ⟨[.int .i64 6, .int .i64 g.a, .int .i64 0, .int .i64 g.c, .slice (some ⟨2, 0, none⟩) g.l.length 3, .string (bs g.t), .bool g.e]⟩
theorem Kd_vc (R : List Value) (n : Nat) : mcall E0 noM 200 36 [.pointer (some ⟨0, 0, none⟩)] ⟨mkR (nums 0 [⟨[.slice (some ⟨1, 0, none⟩) n 1, .int .i64 0], false, .cells false⟩, ⟨.string ⟨#[97, 110, 115, 119, 101, 114]⟩ :: R, false, .cells true⟩]), 2⟩ (retIsM 2 (.tuple ⟨[.int .i64 6, .string ⟨#[110, 115, 116, 114]⟩]⟩) 2 [(0, ⟨[.slice (some ⟨1, 0, none⟩) n 1, .int .i64 1], false, .cells false⟩), (1, ⟨.string ⟨#[97, 110, 115, 119, 101, 114]⟩ :: R, false, .cells true⟩)]) =
  (br (!decide ((0 : Int) < Int.ofNat n)) ((Value.int IntKind.i64 (0 : Int) = Value.int IntKind.i64 (0 : Int)) /\ ((Value.slice (some (Addr.mk 1 0 none)) n 1 = Value.slice
  (some (Addr.mk 1 0 none)) n 1) /\ False)) ((Value.int IntKind.i64 (0 : Int) = Value.int IntKind.i64 (0 : Int)) /\ ((Value.slice (some (Addr.mk 1 0 none)) n 1 = Value.slice
  (some (Addr.mk 1 0 none)) n 1) /\ (br (decide ((0 : Int) <= IntKind.wrap IntKind.i64 (IntKind.wrap IntKind.i64 ((0 : Int) + (1 : Int)) - (1 : Int)) /\ (0 : Int) < (↑n :
  Int))) ((Eq (α := Option Value) (some (Value.string (ByteArray.mk #[97, 110, 115, 119, 101, 114]))) (some (Value.string (cellS (Value.string (ByteArray.mk #[97, 110, 115,
  119, 101, 114]) :: R) 0)))) /\ ((Value.slice (some (Addr.mk 1 0 none)) n 1 = Value.slice (some (Addr.mk 1 0 none)) n 1) /\ ((Value.int IntKind.i64 (1 : Int) = Value.int
  IntKind.i64 (1 : Int)) /\ ((Eq (α := Option Value) (some (Value.string (ByteArray.mk #[97, 110, 115, 119, 101, 114]))) (some (Value.string (cellS (Value.string
  (ByteArray.mk #[97, 110, 115, 119, 101, 114]) :: R) 0)))) /\ ((Value.string (cellS (Value.string (ByteArray.mk #[97, 110, 115, 119, 101, 114]) :: R) 0) = Value.string
  (cellS (Value.string (ByteArray.mk #[97, 110, 115, 119, 101, 114]) :: R) 0)) /\ (((6 : Int) = (6 : Int)) /\ ((ByteArray.mk #[110, 115, 116, 114] = ByteArray.mk #[110, 115,
  116, 114]) /\ ((0 = 0) /\ ((n = n) /\ (((1 : Int) = (1 : Int)) /\ ((Eq (α := List Value) (Value.string (ByteArray.mk #[97, 110, 115, 119, 101, 114]) :: R) (Value.string
  (ByteArray.mk #[97, 110, 115, 119, 101, 114]) :: R)) /\ ((Plain (Value.string (ByteArray.mk #[97, 110, 115, 119, 101, 114]) :: R)) /\ True)))))))))))) False)))) := by kernel_rfl
theorem St_round (g : PG) (i : Nat) (Inv : Nat → Prop) (m : Nat → Nat) : mev EtSt noM 60 21 (0 :: pSt) false (codeOf Tryz.prog 21 (0 :: pSt)) ⟨mkOv slSt, 83, []⟩ none ⟨mkR (rlSt g i), 53⟩ (roundK 2 53 83 Inv m (fun _ => slSt) (rlSt g) (wsSt g) i) =
  ((Value.int IntKind.i64 (↑(5 + i) : Int) = Value.int IntKind.i64 (↑(5 + i) : Int)) /\ ((Value.slice (some (Addr.mk 1 0 none)) (List.length g.6) 1 = Value.slice (some
  (Addr.mk 1 0 none)) (List.length g.6) 1) /\ (br (decide ((↑(5 + i) : Int) < Int.ofNat (List.length g.6))) ((((True /\ True) /\ (((True /\ (True /\ True)) /\ (Plain (gC enS
  g.6) /\ True)) /\ ((Plain (gC enS g.6) /\ True) /\ (IsPc (Row.mk (gC enS g.6) false (Ob.cells true)) (List.length g.6) /\ ((5 : Int) <= (↑(5 + i) : Int) /\ (↑(5 + i) :
  Int) < (↑(List.length g.6) : Int))))))) /\ (br (decide (i + 1 <= 16777216)) (br (decide (0 + i * 3 <= List.length (gC enR (List.take i g.5)))) ((Value.slice (some (Addr.mk
  5 0 none)) i 3 = Value.slice (some (Addr.mk 5 0 none)) i 3) /\ ((Value.slice (some (Addr.mk 5 0 none)) i 3 = Value.slice (some (Addr.mk 5 0 none)) i 3) /\ (∃ j : Nat,
  ((Inv j) /\ ((m j < m i) /\ ((0 = 0) /\ ((0 = 0) /\ ((0 = 0) /\ ((0 = 0) /\ ((0 = 0) /\ ((List.length g.6 = List.length g.6) /\ (((↑(5 + j) : Int) = (↑(5 + i) : Int) + (1
  : Int)) /\ ((Eq (α := List Value) (gC enS g.6) (gC enS g.6)) /\ ((Plain (gC enS g.6)) /\ (((0 : Int) = (0 : Int)) /\ (((0 : Int) = (0 : Int)) /\ (((0 : Int) = (0 : Int))
  /\ (((0 : Int) = (0 : Int)) /\ ((ByteArray.mk #[] = ByteArray.mk #[]) /\ ((false = false) /\ (((6 : Int) = (6 : Int)) /\ ((g.1 = g.1) /\ (((0 : Int) = (0 : Int)) /\ ((g.2
  = g.2) /\ ((0 = 0) /\ ((j = i + 1) /\ ((bs g.4 = bs g.4) /\ ((g.3 = g.3) /\ ((ByteArray.mk #[110, 115, 116, 114] = ByteArray.mk #[110, 115, 116, 114]) /\ (((4 : Int) = (4
  : Int)) /\ ((Eq (α := List Value) (gC enR (List.take j g.5)) (List.take (i * 3) (List.drop 0 (gC enR (List.take i g.5))) ++ [Value.string (pcN (Row.mk (gC enS g.6) false
  (Ob.cells true)) (↑(5 + i) : Int)), Value.string (pcV (Row.mk (gC enS g.6) false (Ob.cells true)) (↑(5 + i) : Int)), Value.int IntKind.i64 (pcH (Row.mk (gC enS g.6) false
  (Ob.cells true)) (↑(5 + i) : Int))])) /\ ((Plain (gC enR (List.take j g.5))) /\ True)))))))))))))))))))))))))))))))) False) False)) (∃ y : Unit, ((True) /\ ((0 = 0) /\ ((0
  = 0) /\ ((0 = 0) /\ ((0 = 0) /\ ((0 = 0) /\ ((List.length g.6 = List.length g.6) /\ (((↑(5 + List.length g.5) : Int) = (↑(5 + i) : Int)) /\ ((Eq (α := List Value) (gC enS
  g.6) (gC enS g.6)) /\ ((Plain (gC enS g.6)) /\ (((0 : Int) = (0 : Int)) /\ (((0 : Int) = (0 : Int)) /\ (((0 : Int) = (0 : Int)) /\ (((0 : Int) = (0 : Int)) /\
  ((ByteArray.mk #[] = ByteArray.mk #[]) /\ ((false = false) /\ (((6 : Int) = (6 : Int)) /\ ((g.1 = g.1) /\ (((0 : Int) = (0 : Int)) /\ ((g.2 = g.2) /\ ((0 = 0) /\
  ((List.length g.5 = i) /\ ((bs g.4 = bs g.4) /\ ((g.3 = g.3) /\ ((ByteArray.mk #[110, 115, 116, 114] = ByteArray.mk #[110, 115, 116, 114]) /\ (((4 : Int) = (4 : Int)) /\
  ((Eq (α := List Value) (gC enR (List.take (List.length g.5) g.5)) (gC enR (List.take i g.5))) /\ ((Plain (gC enR (List.take (List.length g.5) g.5))) /\
  True)))))))))))))))))))))))))))))))) := by kernel_rfl
theorem St_vc (g : PG) : mcall EtSt mSt 100 21 [.pointer (some ⟨0, 0, none⟩)] ⟨mkR (nums 0 (rdL ⟨g.p, 0⟩)), 2⟩ (retIsM 2 (stV g) 3 (stR g)) =
  ((((True /\ True) /\ (((True /\ (True /\ True)) /\ (Plain (gC enS g.6) /\ True)) /\ ((Plain (gC enS g.6) /\ True) /\ IsPc (Row.mk (gC enS g.6) false (Ob.cells true))
  (List.length g.6))))) /\ (br (!decide ((1 : Int) < Int.ofNat (List.length g.6))) ((Value.int IntKind.i64 (1 : Int) = Value.int IntKind.i64 (1 : Int)) /\ ((Value.slice
  (some (Addr.mk 1 0 none)) (List.length g.6) 1 = Value.slice (some (Addr.mk 1 0 none)) (List.length g.6) 1) /\ False)) ((Value.int IntKind.i64 (1 : Int) = Value.int
  IntKind.i64 (1 : Int)) /\ ((Value.slice (some (Addr.mk 1 0 none)) (List.length g.6) 1 = Value.slice (some (Addr.mk 1 0 none)) (List.length g.6) 1) /\ (br (decide ((0 :
  Int) <= IntKind.wrap IntKind.i64 (IntKind.wrap IntKind.i64 ((1 : Int) + (1 : Int)) - (1 : Int)) /\ (1 : Int) < (↑(List.length g.6) : Int))) ((Eq (α := Option Value) ((gC
  enS g.6)[1]?) (some (Value.string (cellS (gC enS g.6) 1)))) /\ ((Value.slice (some (Addr.mk 1 0 none)) (List.length g.6) 1 = Value.slice (some (Addr.mk 1 0 none))
  (List.length g.6) 1) /\ ((Value.int IntKind.i64 (2 : Int) = Value.int IntKind.i64 (2 : Int)) /\ ((Eq (α := Option Value) ((gC enS g.6)[1]?) (some (Value.string (cellS (gC
  enS g.6) 1)))) /\ ((Value.string (cellS (gC enS g.6) 1) = Value.string (cellS (gC enS g.6) 1)) /\ ((((True /\ (True /\ True)) /\ (((True /\ (True /\ True)) /\ (Plain (gC
  enS g.6) /\ True)) /\ ((Plain (gC enS g.6) /\ True) /\ (IsRd (Row.mk [Value.slice (some (Addr.mk 1 0 none)) (List.length g.6) 1, Value.int IntKind.i64 (2 : Int)] false
  (Ob.cells false)) (Row.mk (gC enS g.6) false (Ob.cells true)) /\ IsNm (cellS (gC enS g.6) 1)))))) /\ (br (!decide ((2 : Int) < Int.ofNat (List.length g.6))) ((Value.int
  IntKind.i64 (2 : Int) = Value.int IntKind.i64 (2 : Int)) /\ ((Value.slice (some (Addr.mk 1 0 none)) (List.length g.6) 1 = Value.slice (some (Addr.mk 1 0 none))
  (List.length g.6) 1) /\ False)) ((Value.int IntKind.i64 (2 : Int) = Value.int IntKind.i64 (2 : Int)) /\ ((Value.slice (some (Addr.mk 1 0 none)) (List.length g.6) 1 =
  Value.slice (some (Addr.mk 1 0 none)) (List.length g.6) 1) /\ (br (decide ((0 : Int) <= IntKind.wrap IntKind.i64 (IntKind.wrap IntKind.i64 (IntKind.wrap IntKind.i64 ((1 :
  Int) + (1 : Int)) + (1 : Int)) - (1 : Int)) /\ (2 : Int) < (↑(List.length g.6) : Int))) ((Eq (α := Option Value) ((gC enS g.6)[2]?) (some (Value.string (cellS (gC enS g.6)
  2)))) /\ ((Value.slice (some (Addr.mk 1 0 none)) (List.length g.6) 1 = Value.slice (some (Addr.mk 1 0 none)) (List.length g.6) 1) /\ ((Value.int IntKind.i64 (3 : Int) =
  Value.int IntKind.i64 (3 : Int)) /\ ((Eq (α := Option Value) ((gC enS g.6)[2]?) (some (Value.string (cellS (gC enS g.6) 2)))) /\ ((Value.string (cellS (gC enS g.6) 2) =
  Value.string (cellS (gC enS g.6) 2)) /\ ((((True /\ (True /\ True)) /\ (((True /\ (True /\ True)) /\ (Plain (gC enS g.6) /\ True)) /\ ((Plain (gC enS g.6) /\ True) /\
  (IsRd (Row.mk [Value.slice (some (Addr.mk 1 0 none)) (List.length g.6) 1, Value.int IntKind.i64 (3 : Int)] false (Ob.cells false)) (Row.mk (gC enS g.6) false (Ob.cells
  true)) /\ IsNm (cellS (gC enS g.6) 2)))))) /\ ((((True /\ True) /\ (((True /\ (True /\ True)) /\ (Plain (gC enS g.6) /\ True)) /\ ((Plain (gC enS g.6) /\ True) /\ IsPc
  (Row.mk (gC enS g.6) false (Ob.cells true)) (List.length g.6))))) /\ (∃ g2 : PG, ((okP g2) /\ ((0 = 0) /\ ((0 = 0) /\ ((0 = 0) /\ ((0 = 0) /\ ((0 = 0) /\ ((List.length
  g2.6 = List.length g.6) /\ (((5 : Int) = (5 : Int)) /\ ((Eq (α := List Value) (gC enS g2.6) (gC enS g.6)) /\ ((Plain (gC enS g2.6)) /\ (((0 : Int) = (0 : Int)) /\ (((0 :
  Int) = (0 : Int)) /\ (((0 : Int) = (0 : Int)) /\ (((0 : Int) = (0 : Int)) /\ ((ByteArray.mk #[] = ByteArray.mk #[]) /\ ((false = false) /\ (((6 : Int) = (6 : Int)) /\
  ((g2.1 = unI (cellS (gC enS g.6) 1)) /\ (((0 : Int) = (0 : Int)) /\ ((g2.2 = unI (cellS (gC enS g.6) 2)) /\ ((0 = 0) /\ ((bs g2.4 = pcT (Row.mk (gC enS g.6) false
  (Ob.cells true))) /\ ((g2.3 = pcE (Row.mk (gC enS g.6) false (Ob.cells true))) /\ ((ByteArray.mk #[110, 115, 116, 114] = ByteArray.mk #[110, 115, 116, 114]) /\ (((4 : Int)
  = (4 : Int)) /\ ((Eq (α := List Value) ([]) ([])) /\ (∀ (y : Unit), ((True) → (br (!(↑(5 + List.length g2.5) : Int) == Int.ofNat (List.length g2.6)) ((Value.int
  IntKind.i64 (↑(5 + List.length g2.5) : Int) = Value.int IntKind.i64 (↑(5 + List.length g2.5) : Int)) /\ ((Value.slice (some (Addr.mk 1 0 none)) (List.length g2.6) 1 =
  Value.slice (some (Addr.mk 1 0 none)) (List.length g2.6) 1) /\ False)) ((Value.int IntKind.i64 (↑(5 + List.length g2.5) : Int) = Value.int IntKind.i64 (↑(5 + List.length
  g2.5) : Int)) /\ ((Value.slice (some (Addr.mk 1 0 none)) (List.length g2.6) 1 = Value.slice (some (Addr.mk 1 0 none)) (List.length g2.6) 1) /\ (((6 : Int) = (6 : Int)) /\
  ((g.1 = g2.1) /\ (((0 : Int) = (0 : Int)) /\ ((g.2 = g2.2) /\ ((0 = 0) /\ ((List.length g.5 = List.length g2.5) /\ ((bs g.4 = bs g2.4) /\ ((g.3 = g2.3) /\ ((0 = 0) /\
  ((List.length g.6 = List.length g2.6) /\ (((↑(List.length g.6) : Int) = (↑(5 + List.length g2.5) : Int)) /\ ((Eq (α := List Value) (gC enS g.6) (gC enS g2.6)) /\ ((Plain
  (gC enS g.6)) /\ ((Eq (α := List Value) (gC enR g.5) (gC enR (List.take (List.length g2.5) g2.5))) /\ ((Plain (gC enR g.5)) /\
  True)))))))))))))))))))))))))))))))))))))))))))))))))))))) False)))))))))) False))))) := by kernel_rfl
theorem Kd_con (R : List Value) (n : Nat) (h : 0 < n) (hn : n ≤ 100000) (hR : Plain R) : ConM Tryz.prog 36 [.pointer (some ⟨0, 0, none⟩)] [⟨[.slice (some ⟨1, 0, none⟩) n 1, .int .i64 0], false, .cells false⟩, ⟨.string ⟨#[97, 110, 115, 119, 101, 114]⟩ :: R, false, .cells true⟩] (.tuple ⟨[.int .i64 6, .string ⟨#[110, 115, 116, 114]⟩]⟩) 2 [(0, ⟨[.slice (some ⟨1, 0, none⟩) n 1, .int .i64 1], false, .cells false⟩), (1, ⟨.string ⟨#[97, 110, 115, 119, 101, 114]⟩ :: R, false, .cells true⟩)] := by
  refine conM_vc (E := E0) mixed (calls_envN _) (lok_envN _) (M := noM) lm_none (Kd_vc R n) ?_
  simp only [ofNat_eq, toNat_cast, Nat.zero_add, Nat.add_zero, Nat.mul_one, List.drop_zero, bCells_len, bCells_drop, bCells_take, bCells_app, bCells_one, bCells_plain, List.length_replicate, List.length_append, List.length_take, List.length_drop, List.take_length, and_true, true_and, and_self, decide_true, List.length_nil, List.length_cons, Nat.sub_zero, dB_mk, dB_ro, List.take_zero]
  refine br_nb (by rw [Bool.not_eq_false', decide_eq_true_eq]; omega) (br_dec ⟨by decide, by omega⟩ ⟨rfl, rfl, ?_⟩)
  intro v hv
  rcases List.mem_cons.1 hv with rfl | hv
  · rfl
  · exact hR v hv
theorem pcs_get (g : PG) (i : Nat) (h : i < g.l.length) : (pcs g).getD (5 + i) [] = rwP g.l[i].h g.l[i].n g.l[i].v := by
  unfold pcs
  rw [show 5 + i = i + 1 + 1 + 1 + 1 + 1 by omega]
  simp [List.getD, h]
theorem pcs_len (g : PG) : (pcs g).length = g.l.length + 5 := by unfold pcs; simp
theorem pcs_cells (g : PG) (h : okP g) (b : Bool) (o : Ob) : pcE ⟨gC enS g.p, b, o⟩ = g.e ∧ pcT ⟨gC enS g.p, b, o⟩ = bs g.t ∧ ∀ i (hi : i < g.l.length), pcN ⟨gC enS g.p, b, o⟩ ((5 + i : Nat) : Int) = bs g.l[i].n ∧ pcV ⟨gC enS g.p, b, o⟩ ((5 + i : Nat) : Int) = bs g.l[i].v ∧ pcH ⟨gC enS g.p, b, o⟩ ((5 + i : Nat) : Int) = g.l[i].h := by
  obtain ⟨h0, h1, h2, h3, h4, h5⟩ := h
  unfold pcE pcT pcN pcV pcH
  simp only [sl.sealV_eq, decS_gC, h0, Int.toNat_natCast]
  refine ⟨?_, ?_, fun i hi => ?_⟩
  · show decide (endP g.e = [101, 110, 100]) = g.e
    cases g.e <;> simp [endP]
  · show unZ (bs (wordL g.t)) = _
    exact unZ_eq _
  · obtain ⟨⟨m1, m2⟩, m3, m4⟩ := h5 _ (List.getElem_mem hi)
    rw [pcs_get g i hi]
    obtain ⟨e0, e1, e2⟩ := p3_eq _ _ _ (rw_ok g.l[i].h g.l[i].n g.l[i].v m1 m3 m4)
    unfold rwP
    rw [e0, e1, e2, unZ_eq, unZ_eq, unI_eq _ m1 m2]
    exact ⟨rfl, rfl, rfl⟩
theorem pcs_at (g : PG) (k : Nat) (h : k < (pcs g).length) : (pcs g)[k] = (pcs g).getD k [] := (getD_at _ _ h).symm
theorem eKd_ok : EntOk Tryz.prog eKd := by
  intro a rows p v n' rl h hp
  unfold eKd at h
  simp only at h
  split at h <;> simp only [Option.some.injEq, Prod.mk.injEq, reduceCtorEq] at h
  obtain ⟨rfl, rfl, rfl, rfl⟩ := h
  obtain ⟨g, rfl, rfl, hg⟩ := hp
  have hp := hg.1
  have hl := pcs_len g
  have h4 := hg.2.2.2.2.1
  unfold gOwn
  rw [hp]
  exact Kd_con _ _ (by omega) (by omega) (fun v hv => sPl (pcs g) v (by unfold pcs; rw [gC_cons]; exact List.mem_cons_of_mem _ hv))
theorem eTl_ok : EntOk Tryz.prog eTl := by
  intro a rows p v n' rl h hp
  unfold eTl at h
  simp only at h
  split at h <;> simp only [Option.some.injEq, Prod.mk.injEq, reduceCtorEq] at h
  obtain ⟨rfl, rfl, rfl, rfl⟩ := h
  obtain ⟨g, rfl, rfl, hg⟩ := hp
  obtain ⟨e0, e1, _⟩ := pcs_cells g hg false (.cells true)
  unfold gOwn
  rw [e0, e1]
  have hp := hg.1
  have hl := pcs_len g
  have h4 := hg.2.2.2.2.1
  have := Tl_con g.p 3 g.e g.t (by rw [hp]; omega) (by rw [hp]; omega) hg.2.2.2.1 (by simp only [hp]; rw [pcs_at]; rfl) (by simp only [hp]; rw [pcs_at]; rfl)
  exact this
theorem eRr_ok : EntOk Tryz.prog eRr := by
  intro a rows p v n' rl h hp
  unfold eRr at h
  simp only at h
  split at h <;> simp only [Option.some.injEq, Prod.mk.injEq, reduceCtorEq] at h
  obtain ⟨rfl, rfl, rfl, rfl⟩ := h
  rename_i k _
  obtain ⟨⟨g, rfl, rfl, hg⟩, hk1, hk2⟩ := hp
  have hp := hg.1
  have hl := pcs_len g
  have h4 := hg.2.2.2.2.1
  obtain ⟨i, rfl⟩ : ∃ i : Nat, k = ((5 + i : Nat) : Int) := ⟨(k - 5).toNat, by omega⟩
  have hi : i < g.l.length := by rw [hp] at hk2; omega
  obtain ⟨e0, e1, e2⟩ := (pcs_cells g hg false (.cells true)).2.2 i hi
  unfold gOwn
  rw [e0, e1, e2]
  obtain ⟨⟨m1, m2⟩, m3, m4⟩ := hg.2.2.2.2.2 _ (List.getElem_mem hi)
  have := Rr_con g.p (5 + i) g.l[i].h g.l[i].n g.l[i].v (by rw [hp]; omega) (by rw [hp]; omega) m1 m2 m3 m4 (by simp only [hp]; rw [pcs_at, pcs_get g i hi])
  exact this
theorem tSt_ok : ∀ x ∈ tSt, EntOk Tryz.prog x := all_cons eKd_ok (all_cons eTl_ok (all_cons eRr_ok (all_cons eRn_ok (all_nil))))
theorem St_piece : PieceOk EtSt 2 (21, pSt, specSt) := by
  refine piece_loop mixed (calls_envT tSt_ok) (lok_envT _ _) lm_none (n := 60) (by kernel_rfl) (fun _ => (0 : Nat)) (fun g i => i ≤ g.l.length) (fun g i => g.l.length - i) (sl := fun _ _ => slSt) (rl := rlSt) (fun g hg => Nat.zero_le _) (fun g i hg hi => ?_)
  refine (St_round g i _ _).mpr ?_
  have hg : okP g := hg
  have hp := hg.1
  have hl := pcs_len g
  have h4 := hg.2.2.2.2.1
  have plS := sPl g.p
  have plR := rPl
  simp only [ofNat_eq, toNat_cast, Nat.zero_add, Nat.add_zero, Nat.mul_one, List.drop_zero, bCells_len, bCells_drop, bCells_take, bCells_app, bCells_one, bCells_plain, List.length_replicate, List.length_append, List.length_take, List.length_drop, List.take_length, and_true, true_and, and_self, decide_true, List.length_nil, List.length_cons, Nat.sub_zero, dB_mk, dB_ro, List.take_zero]
  have pc : IsPc ⟨gC enS g.p, false, .cells true⟩ g.p.length := ⟨g, rfl, rfl, hg⟩
  have pl := congrArg List.length hp
  refine br_if (fun h => ?_) (fun h => ?_)
  · have h1 : i < g.l.length := by omega
    obtain ⟨e0, e1, e2⟩ := (pcs_cells g hg false (.cells true)).2.2 i h1
    have gl : (gC enR (g.l.take i)).length = i * 3 := by rw [gC_len enR_k, List.length_take, Nat.min_eq_left hi]
    rw [e0, e1, e2]
    refine ⟨⟨plS, plS, pc, by omega, by omega⟩, br_dec (by omega) (br_dec (by rw [gl]; exact Nat.le_refl _) ⟨i + 1, h1, by omega, by omega, plS, rfl, ?_, plR _⟩)⟩
    rw [List.take_of_length_le (l := gC enR (g.l.take i)) (Nat.le_of_eq gl), List.take_succ_eq_append_getElem h1, ← gC_app]; rfl
  · have : i = g.l.length := by omega
    subst this
    rw [List.take_length]
    exact ⟨(), rfl, plS, rfl, rfl, plR _⟩
theorem St_con (g : PG) (hg : okP g) : ConM Tryz.prog 21 [.pointer (some ⟨0, 0, none⟩)] (rdL ⟨g.p, 0⟩) (stV g) 3 (stR g) := by
  refine conM_vc (E := EtSt) mixed (calls_envT tSt_ok) (lok_envT _ _) (M := mSt) (lm_one St_piece) (St_vc g) ?_
  have hp := hg.1
  have hl := pcs_len g
  obtain ⟨_, ⟨a1, a2⟩, ⟨c1, c2⟩, ht, h4, h5⟩ := id hg
  have plS := sPl g.p
  have plR := rPl
  have pl := congrArg List.length hp
  have pc : IsPc ⟨gC enS g.p, false, .cells true⟩ g.p.length := ⟨g, rfl, rfl, hg⟩
  obtain ⟨s1, s2⟩ := sGet g.p 1 (by omega)
  obtain ⟨s3, s4⟩ := sGet g.p 2 (by omega)
  have q1 : g.p[1]'(by omega) = Lib.itoa g.a := by simp only [hp]; rfl
  have q2 : g.p[2]'(by omega) = Lib.itoa g.c := by simp only [hp]; rfl
  rw [q1] at s1 s2
  rw [q2] at s3 s4
  obtain ⟨e0, e1, _⟩ := pcs_cells g hg false (.cells true)
  have rd : ∀ k : Int, IsRd ⟨[.slice (some ⟨1, 0, none⟩) g.p.length 1, .int .i64 k], false, .cells false⟩ ⟨gC enS g.p, false, .cells true⟩ := fun k => ⟨⟨g.p, k⟩, rfl⟩
  simp only [ofNat_eq, toNat_cast, Nat.zero_add, Nat.add_zero, Nat.mul_one, List.drop_zero, bCells_len, bCells_drop, bCells_take, bCells_app, bCells_one, bCells_plain, List.length_replicate, List.length_append, List.length_take, List.length_drop, List.take_length, and_true, true_and, and_self, decide_true, List.length_nil, List.length_cons, Nat.sub_zero, dB_mk, dB_ro, List.take_zero, s2, s4, e0, e1, unI_eq g.a a1 a2, unI_eq g.c c1 c2]
  refine ⟨⟨plS, plS, pc⟩, br_nb (by rw [Bool.not_eq_false', decide_eq_true_eq]; omega) (br_dec ⟨by decide, by omega⟩ ⟨s1, s1, ⟨plS, plS, rd 2, g.a, rfl, a1, a2⟩, br_nb (by rw [Bool.not_eq_false', decide_eq_true_eq]; omega) (br_dec ⟨by decide, by omega⟩ ⟨s3, s3, ⟨plS, plS, rd 3, g.c, rfl, c1, c2⟩, ⟨plS, plS, pc⟩, g, hg, rfl, rfl, plS, rfl, rfl, rfl, rfl, fun _ _ => ?_⟩)⟩)⟩
  have hb : (((5 + g.l.length : Nat) : Int) == ((g.p.length : Nat) : Int)) = true := by rw [beq_iff_eq]; omega
  rw [hb]
  exact br_nb rfl ⟨rfl, rfl, rfl, rfl, rfl, rfl, by omega, rfl, plS, rfl, plR _⟩
end Go.Proofs.YtnbfhihibgdgpaaGreatDoor.sw
