/- StoreOldest: pages of one size, the last touched stay. -/
import Derived.Test.YtcjbpmphkmcmjaaSz9
import Derived.Test.YtcjbpmphkmcmjaaRows
import Derived.Test.YtcjbpmphkmcmjaaLsoQ
import Derived.Test.YtcjbpmphkmcmjaaLwit
import Derived.Test.YtcjbpmphkmcmjaaLsbook
set_option maxRecDepth 20000
set_option linter.unusedSimpArgs false
set_option linter.unusedVariables false
namespace Go.Proofs.Ytcjbpmphkmcmjaa.so
open Go Go.Ev Go.Sy Go.RowKit Go.Proofs.Ytcjbpmphkmcmjaa.gl Go.Proofs.Ytcjbpmphkmcmjaa.tk Go.Proofs.Ytcjbpmphkmcmjaa.cp Go.Proofs.Ytcjbpmphkmcmjaa.ic
noncomputable def eRunsO : EntM := entC 3 fun a r => match a, r with
  | [], [] => some (True, .bool true, [])
  | _, _ => none
noncomputable def eWiO : EntM := entC 29 fun a r => match a, r with
  | [.int .i64 n, .int .i64 lo, .int .i64 hi], [] => some (I64 n ∧ -1000000000000 ≤ lo ∧ hi ≤ 1000000000000 ∧ lo ≤ hi, .int .i64 (inside n lo hi), [])
  | _, _ => none
noncomputable def eSmO : EntM := entC 16 fun a r => match a, r with
  | [.slice (some ⟨0, 0, none⟩) n 1, .slice (some ⟨1, 0, none⟩) m 1], [r0, r1] => some (IsS r0 n ∧ IsS r1 m ∧ n ≤ 9223372036854775807, .bool (Go.Proofs.Ytcjbpmphkmcmjaa.sb.sameR r0 r1), [])
  | _, _ => none
noncomputable def tOl : List EntM := [eGe, ePt, eKs, eSmO, eWiO, eRunsO, eCs, eKy]
noncomputable abbrev EOl : Env := envT Try.prog tOl
def pOl : List Nat := [0, 1, 0, 1, 1, 1, 1, 1]
def pOi : List Nat := [0, 1, 0, 1, 1, 1, 1, 1, 1, 0, 0, 1, 0, 0, 1, 0, 1, 1, 1, 1, 1]
def getB : ByteArray := bs [71, 69, 84]
def htB : ByteArray := bs [104, 116, 116, 112]
def slB : ByteArray := bs [47]
def pgC (a b : ByteArray) : List Value := [.string getB, .string htB, .string a, .string slB, .slice none 0 0, .int .i64 0, .int .i64 0, .slice none 0 0, .int .i64 0, .string b, .int .i64 0, .int .i64 0]
noncomputable def pgE (A : ByteArray) : En := ⟨⟨getB, htB, A, slB, 0, 0, 0, .empty, 0, 0⟩, [], []⟩
noncomputable def fl (K : List UInt8) (w : List (List UInt8)) : List (List UInt8) := w.filter fun x => decide (x ≠ K)
noncomputable def was (K : List UInt8) (w : List (List UInt8)) : Bool := w.any fun x => decide (x = K)
structure GOl where
  l : List Int
  n : Int
  c : Int
structure TOl where
  s : SS
  w : List (List UInt8)
  j : Nat
  x : List (List UInt8)
structure GOi where
  l : List Int
  n : Int
  s : SS
  w : List (List UInt8)
  j : Int
  a : ByteArray
  b : ByteArray
  K : List UInt8
  th : Bool
  x : List (List UInt8)
noncomputable def rsO (l : List Int) (s : SS) : List (Nat × Row) := [(0, iRo .i64 l), (1, ssR s 2 3 4), (2, gOwn ndC s.nd), (3, iOwn .i64 s.fr), (4, mpR s.m)]
noncomputable def slOi (g : GOi) (i : Nat) : List (Nat × Value) := [(1, .slice (some ⟨0, 0, none⟩) g.l.length 1), (5, .int .i64 g.n), (6, .pointer (some ⟨1, 0, none⟩)), (8, .slice (some ⟨5, 0, none⟩) g.w.length 1), (9, .int .i64 g.j), (11, .pointer (some ⟨6, 0, none⟩)), (12, .string (bs g.K)), (14, .bool g.th), (15, .slice (some ⟨7, 0, none⟩) (fl g.K (g.w.take i)).length 1), (16, .bool (was g.K (g.w.take i))), (17, .int .i64 (i : Nat))]
noncomputable def rlOi (g : GOi) (i : Nat) : List (Nat × Row) := rsO g.l g.s ++ [(5, gOwn enS (g.w ++ g.x)), (6, ⟨pgC g.a g.b, false, .cells false⟩), (7, gOwn enS (fl g.K (g.w.take i)))]
noncomputable def wsOi (g : GOi) : List (Gate Unit) := [⟨.exit 2, fun _ => True, fun _ => [(1, .slice (some ⟨0, 0, none⟩) g.l.length 1), (5, .int .i64 g.n), (6, .pointer (some ⟨1, 0, none⟩)), (9, .int .i64 g.j), (11, .pointer (some ⟨6, 0, none⟩)), (12, .string (bs g.K)), (14, .bool g.th), (15, .slice (some ⟨7, 0, none⟩) (fl g.K g.w).length 1), (16, .bool (was g.K g.w))], fun _ => rsO g.l g.s ++ [(6, ⟨pgC g.a g.b, false, .cells false⟩), (7, gOwn enS (fl g.K g.w))], 8⟩]
noncomputable def specOi : Sy.Spec := specOf 1 8 114 (fun g : GOi => g.w.length ≤ 1000) (fun g => slOi g 0) (fun g => rlOi g 0) wsOi
noncomputable def mOi := mOf [(6, pOi, specOi)]
noncomputable def slOl (g : GOl) (t : TOl) : List (Nat × Value) := [(1, .slice (some ⟨0, 0, none⟩) g.l.length 1), (5, .int .i64 g.n), (6, .pointer (some ⟨1, 0, none⟩)), (8, .slice (some ⟨5, 0, none⟩) t.w.length 1), (9, .int .i64 (t.j : Nat))]
noncomputable def rlOl (g : GOl) (t : TOl) : List (Nat × Row) := rsO g.l t.s ++ [(5, gOwn enS (t.w ++ t.x))]
noncomputable def wsOl (g : GOl) : List (Gate Unit) := [⟨.exit 0, fun _ => True, fun _ => [], fun _ => [(0, iRo .i64 g.l)], 6⟩]
theorem Oi_round (g : GOi) (i : Nat) (Inv : Nat → Prop) (m : Nat → Nat) : mev EOl noM 100 6 (0 :: pOi) false (codeOf Try.prog 6 (0 :: pOi)) ⟨mkOv (slOi g i), 114, []⟩ none ⟨mkR (rlOi g i), 8⟩ (roundK 1 8 114 Inv m (slOi g) (rlOi g) (wsOi g) i) =
  let z1 := (cellS (gC enS (g.4 ++ g.10)) (0 + Int.toNat (↑i : Int) * 1)); let z2 := (Eq (α := List Value) (iCells IntKind.i64 g.3.4) (iCells IntKind.i64 g.3.4)); let z3 :=
  (Eq (α := List Value) (iCells IntKind.i64 g.1) (iCells IntKind.i64 g.1)); let z4 := (Eq (α := Option Value) ((gC enS (g.4 ++ g.10))[0 + Int.toNat (↑i : Int) * 1]?) (some
  (Value.string z1))); let z5 := (Eq (α := List Value) (gC ndC g.3.3) (gC ndC g.3.3)); let z6 := (decide ((0 : Int) <= (↑i : Int) /\ (↑i : Int) < (↑(List.length g.4) :
  Int))); let z7 := (Eq (α := List Value) (gC enS (g.4 ++ g.10)) (gC enS (g.4 ++ g.10))); (br (decide ((↑i : Int) < Int.ofNat (List.length g.4))) (br z6 (z4 /\ (br (strEq z1
  (bs g.8)) (∃ j : Nat, ((Inv j) /\ ((m j < m i) /\ ((0 = 0) /\ ((List.length g.1 = List.length g.1) /\ ((g.2 = g.2) /\ ((0 = 0) /\ ((0 = 0) /\ ((List.length g.4 =
  List.length g.4) /\ ((g.5 = g.5) /\ ((0 = 0) /\ ((bs g.8 = bs g.8) /\ ((g.9 = g.9) /\ ((0 = 0) /\ ((List.length (fl g.8 (List.take j g.4)) = List.length (fl g.8 (List.take
  i g.4))) /\ ((was g.8 (List.take j g.4) = true) /\ (((↑j : Int) = IntKind.wrap IntKind.i64 ((↑i : Int) + (1 : Int))) /\ (z3 /\ ((Plain (iCells IntKind.i64 g.1)) /\ ((g.3.1
  = g.3.1) /\ ((g.3.2 = g.3.2) /\ ((0 = 0) /\ ((List.length g.3.3 = List.length g.3.3) /\ ((0 = 0) /\ ((g.3.5 = g.3.5) /\ ((g.3.6 = g.3.6) /\ ((g.3.7 = g.3.7) /\ (z5 /\
  ((Plain (gC ndC g.3.3)) /\ (z2 /\ ((Plain (iCells IntKind.i64 g.3.4)) /\ ((Eq (α := List Value) (mC g.3.8) (mC g.3.8)) /\ ((Plain (mC g.3.8)) /\ (z7 /\ ((Plain (gC enS
  (g.4 ++ g.10))) /\ ((getB = getB) /\ ((htB = htB) /\ ((g.6 = g.6) /\ ((slB = slB) /\ (((0 : Int) = (0 : Int)) /\ (((0 : Int) = (0 : Int)) /\ (((0 : Int) = (0 : Int)) /\
  ((g.7 = g.7) /\ (((0 : Int) = (0 : Int)) /\ (((0 : Int) = (0 : Int)) /\ ((Eq (α := List Value) (gC enS (fl g.8 (List.take j g.4))) (gC enS (fl g.8 (List.take i g.4)))) /\
  ((Plain (gC enS (fl g.8 (List.take j g.4)))) /\ True))))))))))))))))))))))))))))))))))))))))))))))) (br z6 (z4 /\ (br (decide (List.length (fl g.8 (List.take i g.4)) + 1
  <= 16777216)) (br (decide (0 + List.length (fl g.8 (List.take i g.4)) * 1 <= List.length (gC enS (fl g.8 (List.take i g.4))))) (∃ j : Nat, ((Inv j) /\ ((m j < m i) /\ ((0
  = 0) /\ ((List.length g.1 = List.length g.1) /\ ((g.2 = g.2) /\ ((0 = 0) /\ ((0 = 0) /\ ((List.length g.4 = List.length g.4) /\ ((g.5 = g.5) /\ ((0 = 0) /\ ((bs g.8 = bs
  g.8) /\ ((g.9 = g.9) /\ ((0 = 0) /\ ((List.length (fl g.8 (List.take j g.4)) = List.length (fl g.8 (List.take i g.4)) + 1) /\ ((was g.8 (List.take j g.4) = was g.8
  (List.take i g.4)) /\ (((↑j : Int) = IntKind.wrap IntKind.i64 ((↑i : Int) + (1 : Int))) /\ (z3 /\ ((Plain (iCells IntKind.i64 g.1)) /\ ((g.3.1 = g.3.1) /\ ((g.3.2 = g.3.2)
  /\ ((0 = 0) /\ ((List.length g.3.3 = List.length g.3.3) /\ ((0 = 0) /\ ((g.3.5 = g.3.5) /\ ((g.3.6 = g.3.6) /\ ((g.3.7 = g.3.7) /\ (z5 /\ ((Plain (gC ndC g.3.3)) /\ (z2 /\
  ((Plain (iCells IntKind.i64 g.3.4)) /\ ((Eq (α := List Value) (mC g.3.8) (mC g.3.8)) /\ ((Plain (mC g.3.8)) /\ (z7 /\ ((Plain (gC enS (g.4 ++ g.10))) /\ ((getB = getB) /\
  ((htB = htB) /\ ((g.6 = g.6) /\ ((slB = slB) /\ (((0 : Int) = (0 : Int)) /\ (((0 : Int) = (0 : Int)) /\ (((0 : Int) = (0 : Int)) /\ ((g.7 = g.7) /\ (((0 : Int) = (0 :
  Int)) /\ (((0 : Int) = (0 : Int)) /\ ((Eq (α := List Value) (gC enS (fl g.8 (List.take j g.4))) (List.take (List.length (fl g.8 (List.take i g.4)) * 1) (List.drop 0 (gC
  enS (fl g.8 (List.take i g.4)))) ++ [Value.string z1])) /\ ((Plain (gC enS (fl g.8 (List.take j g.4)))) /\ True))))))))))))))))))))))))))))))))))))))))))))))) False)
  False)) False))) False) (∃ y : Unit, ((True) /\ ((0 = 0) /\ ((List.length g.1 = List.length g.1) /\ ((g.2 = g.2) /\ ((0 = 0) /\ ((g.5 = g.5) /\ ((0 = 0) /\ ((bs g.8 = bs
  g.8) /\ ((g.9 = g.9) /\ ((0 = 0) /\ ((List.length (fl g.8 g.4) = List.length (fl g.8 (List.take i g.4))) /\ ((was g.8 g.4 = was g.8 (List.take i g.4)) /\ (z3 /\ ((Plain
  (iCells IntKind.i64 g.1)) /\ ((g.3.1 = g.3.1) /\ ((g.3.2 = g.3.2) /\ ((0 = 0) /\ ((List.length g.3.3 = List.length g.3.3) /\ ((0 = 0) /\ ((g.3.5 = g.3.5) /\ ((g.3.6 =
  g.3.6) /\ ((g.3.7 = g.3.7) /\ (z5 /\ ((Plain (gC ndC g.3.3)) /\ (z2 /\ ((Plain (iCells IntKind.i64 g.3.4)) /\ ((Eq (α := List Value) (mC g.3.8) (mC g.3.8)) /\ ((Plain (mC
  g.3.8)) /\ ((getB = getB) /\ ((htB = htB) /\ ((g.6 = g.6) /\ ((slB = slB) /\ (((0 : Int) = (0 : Int)) /\ (((0 : Int) = (0 : Int)) /\ (((0 : Int) = (0 : Int)) /\ ((g.7 =
  g.7) /\ (((0 : Int) = (0 : Int)) /\ (((0 : Int) = (0 : Int)) /\ ((Eq (α := List Value) (gC enS (fl g.8 g.4)) (gC enS (fl g.8 (List.take i g.4)))) /\ ((Plain (gC enS (fl
  g.8 g.4))) /\ True)))))))))))))))))))))))))))))))))))))))))) := by kernel_rfl
theorem Ol_round (g : GOl) (t : TOl) (Inv : TOl → Prop) (m : TOl → Nat) : mev EOl mOi 200 6 (0 :: pOl) false (codeOf Try.prog 6 (0 :: pOl)) ⟨mkOv (slOl g t), 114, []⟩ none ⟨mkR (rlOl g t), 6⟩ (roundK 1 6 114 Inv m (slOl g) (rlOl g) (wsOl g) t) =
  let z9 := (cellI (iCells IntKind.i64 g.1) (0 + Int.toNat (↑t.3 : Int) * 1)); let z1 := (ByteArray.mk (Array.mk [UInt8.ofNat (Int.toNat (IntKind.wrap IntKind.u8
  (IntKind.wrap IntKind.i64 ((97 : Int) + inside z9 (0 : Int) (25 : Int)))))])); let z2 := (Row.mk (iCells IntKind.i64 t.1.4) false (Ob.cells true)); let z3 := (Row.mk (gC
  ndC t.1.3) false (Ob.cells true)); let z4 := (True /\ (True /\ (True /\ (True /\ (True /\ (True /\ True)))))); let z5 := (geNd t.1.1 t.1.2 t.1.6 t.1.7 t.1.5 z3 z2 (Row.mk
  (mC t.1.8) false (Ob.map true)) (ByteArray.mk #[104, 116, 116, 112]) z1 (ByteArray.mk #[47]) (Row.mk [] true (Ob.cells true))); let z6 := (geFr t.1.1 t.1.2 t.1.6 t.1.7
  t.1.5 z3 z2 (Row.mk (mC t.1.8) false (Ob.map true)) (ByteArray.mk #[104, 116, 116, 112]) z1 (ByteArray.mk #[47]) (Row.mk [] true (Ob.cells true))); let z7 := (geMc t.1.1
  t.1.2 t.1.6 t.1.7 t.1.5 z3 z2 (Row.mk (mC t.1.8) false (Ob.map true)) (ByteArray.mk #[104, 116, 116, 112]) z1 (ByteArray.mk #[47]) (Row.mk [] true (Ob.cells true))); let
  z8 := ((True) /\ ((Eq (α := List Value) (iCells IntKind.i64 g.1) (iCells IntKind.i64 g.1)) /\ ((Plain (iCells IntKind.i64 g.1)) /\ True))); let z10 := (List.take
  (Int.toNat (0 : Int)) (List.drop 0 (List.replicate (Int.toNat (0 : Int)) (Value.int IntKind.u8 (0 : Int))))); (br (decide ((↑t.3 : Int) < Int.ofNat (List.length g.1))) (br
  (decide ((↑t.3 : Int) < (60 : Int))) (br (decide ((0 : Int) <= (↑t.3 : Int) /\ (↑t.3 : Int) < (↑(List.length g.1) : Int))) ((Eq (α := Option Value) ((iCells IntKind.i64
  g.1)[0 + Int.toNat (↑t.3 : Int) * 1]?) (some (Value.int IntKind.i64 z9))) /\ ((((True /\ (True /\ (True /\ True))) /\ (True /\ (True /\ (I64 z9 /\ ((-1000000000000 : Int)
  <= (0 : Int) /\ ((25 : Int) <= (1000000000000 : Int) /\ (0 : Int) <= (25 : Int)))))))) /\ ((AllB z10) /\ ((((z4 /\ True) /\ ((True /\ True) /\ (True /\ (TOk (ByteArray.mk
  #[104, 116, 116, 112]) /\ (TOk z1 /\ (TOk (ByteArray.mk #[47]) /\ IsF (Row.mk [] true (Ob.cells true)) 0))))))) /\ ((((True /\ (z4 /\ True)) /\ (((True /\ z4) /\ (True /\
  (Plain (gC ndC t.1.3) /\ (Plain (iCells IntKind.i64 t.1.4) /\ (Plain (mC t.1.8) /\ True))))) /\ ((Plain z5 /\ (Plain z6 /\ (Plain z7 /\ (Plain (feEc t.1.1 t.1.2 t.1.6
  t.1.7 t.1.5 z3 z2 (Row.mk (mC t.1.8) false (Ob.map true)) (ByteArray.mk #[104, 116, 116, 112]) z1 (ByteArray.mk #[47]) (Row.mk [] true (Ob.cells true))) /\ (Plain (feRc
  t.1.1 t.1.2 t.1.6 t.1.7 t.1.5 z3 z2 (Row.mk (mC t.1.8) false (Ob.map true)) (ByteArray.mk #[104, 116, 116, 112]) z1 (ByteArray.mk #[47]) (Row.mk [] true (Ob.cells true)))
  /\ True))))) /\ (TOk (ByteArray.mk #[104, 116, 116, 112]) /\ (TOk z1 /\ (TOk (ByteArray.mk #[47]) /\ (IsF (Row.mk [] true (Ob.cells true)) 0 /\ (FVR (Row.mk [] true
  (Ob.cells true)) /\ PDr t.1.1 t.1.2 t.1.6 t.1.7 t.1.5 (List.length t.1.3) z3 z2 (Row.mk (mC t.1.8) false (Ob.map true))))))))))) /\ (∃ g2 : GOi, let w5 := (Row.mk (gC ndC
  g2.3.3) false (Ob.cells true)); let w2 := (Row.mk (iCells IntKind.i64 g2.3.4) false (Ob.cells true)); let w14 := (ptSiz g2.3.1 g2.3.2 g2.3.6 g2.3.7 g2.3.5 w5 w2 (Row.mk
  (mC g2.3.8) false (Ob.map true)) getB htB g2.6 slB (Row.mk [] true (Ob.cells true)) (0 : Int) (0 : Int) (Row.mk [] true (Ob.cells true)) (0 : Int) g2.7 (0 : Int) (0 :
  Int)); let w15 := (ptNw g2.3.1 g2.3.2 g2.3.6 g2.3.7 g2.3.5 w5 w2 (Row.mk (mC g2.3.8) false (Ob.map true)) getB htB g2.6 slB (Row.mk [] true (Ob.cells true)) (0 : Int) (0 :
  Int) (Row.mk [] true (Ob.cells true)) (0 : Int) g2.7 (0 : Int) (0 : Int)); let w16 := (ptOl g2.3.1 g2.3.2 g2.3.6 g2.3.7 g2.3.5 w5 w2 (Row.mk (mC g2.3.8) false (Ob.map
  true)) getB htB g2.6 slB (Row.mk [] true (Ob.cells true)) (0 : Int) (0 : Int) (Row.mk [] true (Ob.cells true)) (0 : Int) g2.7 (0 : Int) (0 : Int)); let w17 := (ptFn g2.3.1
  g2.3.2 g2.3.6 g2.3.7 g2.3.5 w5 w2 (Row.mk (mC g2.3.8) false (Ob.map true)) getB htB g2.6 slB (Row.mk [] true (Ob.cells true)) (0 : Int) (0 : Int) (Row.mk [] true (Ob.cells
  true)) (0 : Int) g2.7 (0 : Int) (0 : Int)); let w9 := (ptNd g2.3.1 g2.3.2 g2.3.6 g2.3.7 g2.3.5 w5 w2 (Row.mk (mC g2.3.8) false (Ob.map true)) getB htB g2.6 slB (Row.mk []
  true (Ob.cells true)) (0 : Int) (0 : Int) (Row.mk [] true (Ob.cells true)) (0 : Int) g2.7 (0 : Int) (0 : Int)); let w10 := (ptFr g2.3.1 g2.3.2 g2.3.6 g2.3.7 g2.3.5 w5 w2
  (Row.mk (mC g2.3.8) false (Ob.map true)) getB htB g2.6 slB (Row.mk [] true (Ob.cells true)) (0 : Int) (0 : Int) (Row.mk [] true (Ob.cells true)) (0 : Int) g2.7 (0 : Int)
  (0 : Int)); let w11 := (ptMc g2.3.1 g2.3.2 g2.3.6 g2.3.7 g2.3.5 w5 w2 (Row.mk (mC g2.3.8) false (Ob.map true)) getB htB g2.6 slB (Row.mk [] true (Ob.cells true)) (0 : Int)
  (0 : Int) (Row.mk [] true (Ob.cells true)) (0 : Int) g2.7 (0 : Int) (0 : Int)); let w1 := (List.take (kyN g2.3.1 w14 w15 w16 w17 (Row.mk w9 false (Ob.cells true)) (Row.mk
  w10 false (Ob.cells true)) (Row.mk w11 false (Ob.map true)) * 1) (List.drop 0 (kyC g2.3.1 w14 w15 w16 w17 (Row.mk w9 false (Ob.cells true)) (Row.mk w10 false (Ob.cells
  true)) (Row.mk w11 false (Ob.map true))))); let w3 := (((True /\ True) /\ (((True /\ z4) /\ (Plain w9 /\ (Plain w10 /\ (Plain w11 /\ True)))) /\ ((Plain w9 /\ (Plain w10
  /\ (Plain w11 /\ (Plain (kyC g2.3.1 w14 w15 w16 w17 (Row.mk w9 false (Ob.cells true)) (Row.mk w10 false (Ob.cells true)) (Row.mk w11 false (Ob.map true))) /\ True)))) /\
  PDr g2.3.1 w14 w15 w16 w17 (ptLn g2.3.1 g2.3.2 g2.3.6 g2.3.7 g2.3.5 w5 w2 (Row.mk (mC g2.3.8) false (Ob.map true)) getB htB g2.6 slB (Row.mk [] true (Ob.cells true)) (0 :
  Int) (0 : Int) (Row.mk [] true (Ob.cells true)) (0 : Int) g2.7 (0 : Int) (0 : Int)) (Row.mk w9 false (Ob.cells true)) (Row.mk w10 false (Ob.cells true)) (Row.mk w11 false
  (Ob.map true)))))); let w4 := (0 + kyN g2.3.1 w14 w15 w16 w17 (Row.mk w9 false (Ob.cells true)) (Row.mk w10 false (Ob.cells true)) (Row.mk w11 false (Ob.map true)) * 1 <=
  List.length (kyC g2.3.1 w14 w15 w16 w17 (Row.mk w9 false (Ob.cells true)) (Row.mk w10 false (Ob.cells true)) (Row.mk w11 false (Ob.map true))) /\ Plain w1); let w6 :=
  (Value.string (bs g2.8) :: ([] ++ List.take (List.length (fl g2.8 g2.4) * 1) (List.drop 0 (gC enS (fl g2.8 g2.4))))); let w7 := (kyN g2.3.1 w14 w15 w16 w17 (Row.mk w9
  false (Ob.cells true)) (Row.mk w10 false (Ob.cells true)) (Row.mk w11 false (Ob.map true))); let w8 := (List.take (kyN g2.3.1 g2.3.2 g2.3.6 g2.3.7 g2.3.5 w5 w2 (Row.mk (mC
  g2.3.8) false (Ob.map true)) * 1) (List.drop 0 (kyC g2.3.1 g2.3.2 g2.3.6 g2.3.7 g2.3.5 w5 w2 (Row.mk (mC g2.3.8) false (Ob.map true))))); let w12 := (((True /\ True) /\
  (((True /\ z4) /\ (Plain (gC ndC g2.3.3) /\ (Plain (iCells IntKind.i64 g2.3.4) /\ (Plain (mC g2.3.8) /\ True)))) /\ ((Plain (gC ndC g2.3.3) /\ (Plain (iCells IntKind.i64
  g2.3.4) /\ (Plain (mC g2.3.8) /\ (Plain (kyC g2.3.1 g2.3.2 g2.3.6 g2.3.7 g2.3.5 w5 w2 (Row.mk (mC g2.3.8) false (Ob.map true))) /\ True)))) /\ PDr g2.3.1 g2.3.2 g2.3.6
  g2.3.7 g2.3.5 (List.length g2.3.3) w5 w2 (Row.mk (mC g2.3.8) false (Ob.map true)))))); let w13 := (List.take ((1 + List.length (fl g2.8 g2.4)) * 1) w6); let w18 := (0 +
  kyN g2.3.1 g2.3.2 g2.3.6 g2.3.7 g2.3.5 w5 w2 (Row.mk (mC g2.3.8) false (Ob.map true)) * 1 <= List.length (kyC g2.3.1 g2.3.2 g2.3.6 g2.3.7 g2.3.5 w5 w2 (Row.mk (mC g2.3.8)
  false (Ob.map true))) /\ Plain w8); let w19 := (Eq (α := List Value) (iCells IntKind.i64 g.1) (iCells IntKind.i64 g2.1)); let w20 := (Row.mk (List.take ((Int.toNat g2.2 -
  0) * 1) w6) true (Ob.cells true)); let w21 := ((0 + (Int.toNat g2.2 - 0) * 1 <= List.length w6 /\ Plain (List.take ((Int.toNat g2.2 - 0) * 1) w6)) /\ True); let w22 :=
  (decide ((0 : Int) <= (↑0 : Int) /\ (0 : Int) <= g2.2 /\ g2.2 <= (↑(1 + List.length (fl g2.8 g2.4)) : Int))); let w23 := (allOne (List.take (List.length (fl g2.8 g2.4) *
  1) (List.drop 0 (gC enS (fl g2.8 g2.4))))); let w24 := (kyN g2.3.1 g2.3.2 g2.3.6 g2.3.7 g2.3.5 w5 w2 (Row.mk (mC g2.3.8) false (Ob.map true))); let w25 := (decide (0 +
  List.length (fl g2.8 g2.4) * 1 <= List.length (gC enS (fl g2.8 g2.4)))); let w26 := ((0 + (1 + List.length (fl g2.8 g2.4)) * 1 <= List.length w6 /\ Plain w13) /\ True);
  let w27 := (decide (Int.ofNat (1 + List.length (fl g2.8 g2.4)) > g2.2)); let w28 := (decide (1 + List.length (fl g2.8 g2.4) <= 16777216)); ((List.length g2.4 <= 1000) /\
  ((0 = 0) /\ ((List.length g2.1 = List.length g.1) /\ ((g2.2 = g.2) /\ ((0 = 0) /\ ((0 = 0) /\ ((List.length g2.4 = List.length t.2) /\ ((g2.5 = (↑t.3 : Int)) /\ ((0 = 0)
  /\ ((bs g2.8 = keyV (ByteArray.mk #[104, 116, 116, 112]) z1 (ByteArray.mk #[47])) /\ ((g2.9 = feB0 t.1.1 t.1.2 t.1.6 t.1.7 t.1.5 z3 z2 (Row.mk (mC t.1.8) false (Ob.map
  true)) (ByteArray.mk #[104, 116, 116, 112]) z1 (ByteArray.mk #[47]) (Row.mk [] true (Ob.cells true))) /\ ((0 = 0) /\ ((was g2.8 [] = false) /\ (((0 : Int) = (0 : Int)) /\
  ((Eq (α := List Value) (iCells IntKind.i64 g2.1) (iCells IntKind.i64 g.1)) /\ ((Plain (iCells IntKind.i64 g2.1)) /\ ((g2.3.1 = t.1.1) /\ ((g2.3.2 = geSiz t.1.1 t.1.2 t.1.6
  t.1.7 t.1.5 z3 z2 (Row.mk (mC t.1.8) false (Ob.map true)) (ByteArray.mk #[104, 116, 116, 112]) z1 (ByteArray.mk #[47]) (Row.mk [] true (Ob.cells true))) /\ ((0 = 0) /\
  ((List.length g2.3.3 = geLn t.1.1 t.1.2 t.1.6 t.1.7 t.1.5 z3 z2 (Row.mk (mC t.1.8) false (Ob.map true)) (ByteArray.mk #[104, 116, 116, 112]) z1 (ByteArray.mk #[47])
  (Row.mk [] true (Ob.cells true))) /\ ((0 = 0) /\ ((g2.3.5 = geFn t.1.1 t.1.2 t.1.6 t.1.7 t.1.5 z3 z2 (Row.mk (mC t.1.8) false (Ob.map true)) (ByteArray.mk #[104, 116, 116,
  112]) z1 (ByteArray.mk #[47]) (Row.mk [] true (Ob.cells true))) /\ ((g2.3.6 = geNw t.1.1 t.1.2 t.1.6 t.1.7 t.1.5 z3 z2 (Row.mk (mC t.1.8) false (Ob.map true))
  (ByteArray.mk #[104, 116, 116, 112]) z1 (ByteArray.mk #[47]) (Row.mk [] true (Ob.cells true))) /\ ((g2.3.7 = geOl t.1.1 t.1.2 t.1.6 t.1.7 t.1.5 z3 z2 (Row.mk (mC t.1.8)
  false (Ob.map true)) (ByteArray.mk #[104, 116, 116, 112]) z1 (ByteArray.mk #[47]) (Row.mk [] true (Ob.cells true))) /\ ((Eq (α := List Value) (gC ndC g2.3.3) z5) /\
  ((Plain (gC ndC g2.3.3)) /\ ((Eq (α := List Value) (iCells IntKind.i64 g2.3.4) z6) /\ ((Plain (iCells IntKind.i64 g2.3.4)) /\ ((Eq (α := List Value) (mC g2.3.8) z7) /\
  ((Plain (mC g2.3.8)) /\ ((Eq (α := List Value) (gC enS (g2.4 ++ g2.10)) (gC enS (t.2 ++ t.4))) /\ ((Plain (gC enS (g2.4 ++ g2.10))) /\ ((getB = ByteArray.mk #[71, 69, 84])
  /\ ((htB = ByteArray.mk #[104, 116, 116, 112]) /\ ((g2.6 = ByteArray.mk (Array.mk [UInt8.ofNat (Int.toNat (IntKind.wrap IntKind.u8 (IntKind.wrap IntKind.i64 ((97 : Int) +
  inside z9 (0 : Int) (25 : Int)))))])) /\ ((slB = ByteArray.mk #[47]) /\ (((0 : Int) = (0 : Int)) /\ (((0 : Int) = (0 : Int)) /\ (((0 : Int) = (0 : Int)) /\ ((g2.7 =
  ByteArray.mk (List.toArray (List.map bOf z10))) /\ (((0 : Int) = (0 : Int)) /\ (((0 : Int) = (0 : Int)) /\ ((Eq (α := List Value) ([]) ([])) /\ (∀ (y : Unit), ((True) →
  (br (!g2.9 == was g2.8 g2.4) False (br (!g2.9) ((((True /\ ((True /\ (True /\ (True /\ (True /\ (True /\ (True /\ z4)))))) /\ True)) /\ (((True /\ z4) /\ (True /\ (True /\
  (Plain (gC ndC g2.3.3) /\ (Plain (iCells IntKind.i64 g2.3.4) /\ (Plain (mC g2.3.8) /\ True)))))) /\ ((Plain w9 /\ (Plain w10 /\ (Plain w11 /\ True))) /\ (TOk htB /\ (TOk
  g2.6 /\ (TOk slB /\ (TOk g2.7 /\ (IsF (Row.mk [] true (Ob.cells true)) 0 /\ (IsF (Row.mk [] true (Ob.cells true)) 0 /\ (FVR (Row.mk [] true (Ob.cells true)) /\ (FVR
  (Row.mk [] true (Ob.cells true)) /\ (g2.3.1 <= (1099511627776 : Int) /\ PDr g2.3.1 g2.3.2 g2.3.6 g2.3.7 g2.3.5 (List.length g2.3.3) w5 w2 (Row.mk (mC g2.3.8) false (Ob.map
  true))))))))))))))) /\ (br (!ptB0 g2.3.1 g2.3.2 g2.3.6 g2.3.7 g2.3.5 w5 w2 (Row.mk (mC g2.3.8) false (Ob.map true)) getB htB g2.6 slB (Row.mk [] true (Ob.cells true)) (0 :
  Int) (0 : Int) (Row.mk [] true (Ob.cells true)) (0 : Int) g2.7 (0 : Int) (0 : Int)) False (br w25 (br w23 (br w28 (br w27 (br w22 (w3 /\ ((((w4 /\ w21) /\ ((True /\ (True
  /\ True)) /\ (True /\ (IsS (Row.mk w1 true (Ob.cells true)) w7 /\ (IsS w20 (Int.toNat g2.2 - 0) /\ kyN g2.3.1 w14 w15 w16 w17 (Row.mk w9 false (Ob.cells true)) (Row.mk w10
  false (Ob.cells true)) (Row.mk w11 false (Ob.map true)) <= 9223372036854775807)))))) /\ (br (!sb.sameR (Row.mk w1 true (Ob.cells true)) w20) False (∃ j : TOl, ((Inv j) /\
  ((m j < m t) /\ ((0 = 0) /\ ((List.length g.1 = List.length g2.1) /\ ((g.2 = g2.2) /\ ((0 = 0) /\ ((0 = 0) /\ ((List.length j.2 = Int.toNat g2.2 - 0) /\ (((↑j.3 : Int) =
  IntKind.wrap IntKind.i64 (g2.5 + (1 : Int))) /\ (w19 /\ ((Plain (iCells IntKind.i64 g.1)) /\ ((j.1.1 = g2.3.1) /\ ((j.1.2 = ptSiz g2.3.1 g2.3.2 g2.3.6 g2.3.7 g2.3.5 w5 w2
  (Row.mk (mC g2.3.8) false (Ob.map true)) getB htB g2.6 slB (Row.mk [] true (Ob.cells true)) (0 : Int) (0 : Int) (Row.mk [] true (Ob.cells true)) (0 : Int) g2.7 (0 : Int)
  (0 : Int)) /\ ((0 = 0) /\ ((List.length j.1.3 = ptLn g2.3.1 g2.3.2 g2.3.6 g2.3.7 g2.3.5 w5 w2 (Row.mk (mC g2.3.8) false (Ob.map true)) getB htB g2.6 slB (Row.mk [] true
  (Ob.cells true)) (0 : Int) (0 : Int) (Row.mk [] true (Ob.cells true)) (0 : Int) g2.7 (0 : Int) (0 : Int)) /\ ((0 = 0) /\ ((j.1.5 = ptFn g2.3.1 g2.3.2 g2.3.6 g2.3.7 g2.3.5
  w5 w2 (Row.mk (mC g2.3.8) false (Ob.map true)) getB htB g2.6 slB (Row.mk [] true (Ob.cells true)) (0 : Int) (0 : Int) (Row.mk [] true (Ob.cells true)) (0 : Int) g2.7 (0 :
  Int) (0 : Int)) /\ ((j.1.6 = ptNw g2.3.1 g2.3.2 g2.3.6 g2.3.7 g2.3.5 w5 w2 (Row.mk (mC g2.3.8) false (Ob.map true)) getB htB g2.6 slB (Row.mk [] true (Ob.cells true)) (0 :
  Int) (0 : Int) (Row.mk [] true (Ob.cells true)) (0 : Int) g2.7 (0 : Int) (0 : Int)) /\ ((j.1.7 = ptOl g2.3.1 g2.3.2 g2.3.6 g2.3.7 g2.3.5 w5 w2 (Row.mk (mC g2.3.8) false
  (Ob.map true)) getB htB g2.6 slB (Row.mk [] true (Ob.cells true)) (0 : Int) (0 : Int) (Row.mk [] true (Ob.cells true)) (0 : Int) g2.7 (0 : Int) (0 : Int)) /\ ((Eq (α :=
  List Value) (gC ndC j.1.3) w9) /\ ((Plain (gC ndC j.1.3)) /\ ((Eq (α := List Value) (iCells IntKind.i64 j.1.4) w10) /\ ((Plain (iCells IntKind.i64 j.1.4)) /\ ((Eq (α :=
  List Value) (mC j.1.8) w11) /\ ((Plain (mC j.1.8)) /\ ((Eq (α := List Value) (gC enS (j.2 ++ j.4)) w6) /\ ((Plain (gC enS (j.2 ++ j.4))) /\
  True))))))))))))))))))))))))))))))) False) (w3 /\ ((((w4 /\ w26) /\ ((True /\ (True /\ True)) /\ (True /\ (IsS (Row.mk w1 true (Ob.cells true)) w7 /\ (IsS (Row.mk w13 true
  (Ob.cells true)) (1 + List.length (fl g2.8 g2.4)) /\ kyN g2.3.1 w14 w15 w16 w17 (Row.mk w9 false (Ob.cells true)) (Row.mk w10 false (Ob.cells true)) (Row.mk w11 false
  (Ob.map true)) <= 9223372036854775807)))))) /\ (br (!sb.sameR (Row.mk w1 true (Ob.cells true)) (Row.mk w13 true (Ob.cells true))) False (∃ j : TOl, ((Inv j) /\ ((m j < m
  t) /\ ((0 = 0) /\ ((List.length g.1 = List.length g2.1) /\ ((g.2 = g2.2) /\ ((0 = 0) /\ ((0 = 0) /\ ((List.length j.2 = 1 + List.length (fl g2.8 g2.4)) /\ (((↑j.3 : Int) =
  IntKind.wrap IntKind.i64 (g2.5 + (1 : Int))) /\ (w19 /\ ((Plain (iCells IntKind.i64 g.1)) /\ ((j.1.1 = g2.3.1) /\ ((j.1.2 = ptSiz g2.3.1 g2.3.2 g2.3.6 g2.3.7 g2.3.5 w5 w2
  (Row.mk (mC g2.3.8) false (Ob.map true)) getB htB g2.6 slB (Row.mk [] true (Ob.cells true)) (0 : Int) (0 : Int) (Row.mk [] true (Ob.cells true)) (0 : Int) g2.7 (0 : Int)
  (0 : Int)) /\ ((0 = 0) /\ ((List.length j.1.3 = ptLn g2.3.1 g2.3.2 g2.3.6 g2.3.7 g2.3.5 w5 w2 (Row.mk (mC g2.3.8) false (Ob.map true)) getB htB g2.6 slB (Row.mk [] true
  (Ob.cells true)) (0 : Int) (0 : Int) (Row.mk [] true (Ob.cells true)) (0 : Int) g2.7 (0 : Int) (0 : Int)) /\ ((0 = 0) /\ ((j.1.5 = ptFn g2.3.1 g2.3.2 g2.3.6 g2.3.7 g2.3.5
  w5 w2 (Row.mk (mC g2.3.8) false (Ob.map true)) getB htB g2.6 slB (Row.mk [] true (Ob.cells true)) (0 : Int) (0 : Int) (Row.mk [] true (Ob.cells true)) (0 : Int) g2.7 (0 :
  Int) (0 : Int)) /\ ((j.1.6 = ptNw g2.3.1 g2.3.2 g2.3.6 g2.3.7 g2.3.5 w5 w2 (Row.mk (mC g2.3.8) false (Ob.map true)) getB htB g2.6 slB (Row.mk [] true (Ob.cells true)) (0 :
  Int) (0 : Int) (Row.mk [] true (Ob.cells true)) (0 : Int) g2.7 (0 : Int) (0 : Int)) /\ ((j.1.7 = ptOl g2.3.1 g2.3.2 g2.3.6 g2.3.7 g2.3.5 w5 w2 (Row.mk (mC g2.3.8) false
  (Ob.map true)) getB htB g2.6 slB (Row.mk [] true (Ob.cells true)) (0 : Int) (0 : Int) (Row.mk [] true (Ob.cells true)) (0 : Int) g2.7 (0 : Int) (0 : Int)) /\ ((Eq (α :=
  List Value) (gC ndC j.1.3) w9) /\ ((Plain (gC ndC j.1.3)) /\ ((Eq (α := List Value) (iCells IntKind.i64 j.1.4) w10) /\ ((Plain (iCells IntKind.i64 j.1.4)) /\ ((Eq (α :=
  List Value) (mC j.1.8) w11) /\ ((Plain (mC j.1.8)) /\ ((Eq (α := List Value) (gC enS (j.2 ++ j.4)) w6) /\ ((Plain (gC enS (j.2 ++ j.4))) /\
  True)))))))))))))))))))))))))))))))) False) False) False))) (br w25 (br w23 (br w28 (br w27 (br w22 (w12 /\ ((((w18 /\ w21) /\ ((True /\ (True /\ True)) /\ (True /\ (IsS
  (Row.mk w8 true (Ob.cells true)) w24 /\ (IsS w20 (Int.toNat g2.2 - 0) /\ kyN g2.3.1 g2.3.2 g2.3.6 g2.3.7 g2.3.5 w5 w2 (Row.mk (mC g2.3.8) false (Ob.map true)) <=
  9223372036854775807)))))) /\ (br (!sb.sameR (Row.mk w8 true (Ob.cells true)) w20) False (∃ j : TOl, ((Inv j) /\ ((m j < m t) /\ ((0 = 0) /\ ((List.length g.1 = List.length
  g2.1) /\ ((g.2 = g2.2) /\ ((0 = 0) /\ ((0 = 0) /\ ((List.length j.2 = Int.toNat g2.2 - 0) /\ (((↑j.3 : Int) = IntKind.wrap IntKind.i64 (g2.5 + (1 : Int))) /\ (w19 /\
  ((Plain (iCells IntKind.i64 g.1)) /\ ((j.1.1 = g2.3.1) /\ ((j.1.2 = g2.3.2) /\ ((0 = 0) /\ ((List.length j.1.3 = List.length g2.3.3) /\ ((0 = 0) /\ ((j.1.5 = g2.3.5) /\
  ((j.1.6 = g2.3.6) /\ ((j.1.7 = g2.3.7) /\ ((Eq (α := List Value) (gC ndC j.1.3) (gC ndC g2.3.3)) /\ ((Plain (gC ndC j.1.3)) /\ ((Eq (α := List Value) (iCells IntKind.i64
  j.1.4) (iCells IntKind.i64 g2.3.4)) /\ ((Plain (iCells IntKind.i64 j.1.4)) /\ ((Eq (α := List Value) (mC j.1.8) (mC g2.3.8)) /\ ((Plain (mC j.1.8)) /\ ((Eq (α := List
  Value) (gC enS (j.2 ++ j.4)) w6) /\ ((Plain (gC enS (j.2 ++ j.4))) /\ True))))))))))))))))))))))))))))))) False) (w12 /\ ((((w18 /\ w26) /\ ((True /\ (True /\ True)) /\
  (True /\ (IsS (Row.mk w8 true (Ob.cells true)) w24 /\ (IsS (Row.mk w13 true (Ob.cells true)) (1 + List.length (fl g2.8 g2.4)) /\ kyN g2.3.1 g2.3.2 g2.3.6 g2.3.7 g2.3.5 w5
  w2 (Row.mk (mC g2.3.8) false (Ob.map true)) <= 9223372036854775807)))))) /\ (br (!sb.sameR (Row.mk w8 true (Ob.cells true)) (Row.mk w13 true (Ob.cells true))) False (∃ j :
  TOl, ((Inv j) /\ ((m j < m t) /\ ((0 = 0) /\ ((List.length g.1 = List.length g2.1) /\ ((g.2 = g2.2) /\ ((0 = 0) /\ ((0 = 0) /\ ((List.length j.2 = 1 + List.length (fl g2.8
  g2.4)) /\ (((↑j.3 : Int) = IntKind.wrap IntKind.i64 (g2.5 + (1 : Int))) /\ (w19 /\ ((Plain (iCells IntKind.i64 g.1)) /\ ((j.1.1 = g2.3.1) /\ ((j.1.2 = g2.3.2) /\ ((0 = 0)
  /\ ((List.length j.1.3 = List.length g2.3.3) /\ ((0 = 0) /\ ((j.1.5 = g2.3.5) /\ ((j.1.6 = g2.3.6) /\ ((j.1.7 = g2.3.7) /\ ((Eq (α := List Value) (gC ndC j.1.3) (gC ndC
  g2.3.3)) /\ ((Plain (gC ndC j.1.3)) /\ ((Eq (α := List Value) (iCells IntKind.i64 j.1.4) (iCells IntKind.i64 g2.3.4)) /\ ((Plain (iCells IntKind.i64 j.1.4)) /\ ((Eq (α :=
  List Value) (mC j.1.8) (mC g2.3.8)) /\ ((Plain (mC j.1.8)) /\ ((Eq (α := List Value) (gC enS (j.2 ++ j.4)) w6) /\ ((Plain (gC enS (j.2 ++ j.4))) /\
  True)))))))))))))))))))))))))))))))) False) False) False)))))))))))))))))))))))))))))))))))))))))))))))))))))) False) (∃ y : Unit, z8)) (∃ y : Unit, z8)) := by kernel_rfl
theorem eRunsO_ok : EntOk Try.prog eRunsO := entC_ok (by
  intro a rows p v news h hp
  split at h <;> simp only [Option.some.injEq, Prod.mk.injEq, reduceCtorEq] at h
  obtain ⟨rfl, rfl, rfl⟩ := h
  exact con_run mixed (n := 1000000) (by kernel_rfl) (by kernel_rfl))
theorem eWiO_ok : EntOk Try.prog eWiO := entC_ok (by
  intro a rows p v news h hp
  split at h <;> simp only [Option.some.injEq, Prod.mk.injEq, reduceCtorEq] at h
  obtain ⟨rfl, rfl, rfl⟩ := h
  exact Go.Proofs.Ytcjbpmphkmcmjaa.tk.within_con _ _ _ hp.1 hp.2.1 hp.2.2.1 hp.2.2.2)
theorem eSmO_ok : EntOk Try.prog eSmO := entC_ok (by
  intro a rows p v news h hp
  split at h <;> simp only [Option.some.injEq, Prod.mk.injEq, reduceCtorEq] at h
  obtain ⟨rfl, rfl, rfl⟩ := h
  obtain ⟨⟨x, rfl, rfl⟩, ⟨y, rfl, rfl⟩, hl⟩ := hp
  rw [List.append_nil]
  unfold gRo
  rw [Go.Proofs.Ytcjbpmphkmcmjaa.sb.sameR_gC]
  exact Go.Proofs.Ytcjbpmphkmcmjaa.sb.same_con x y hl)
theorem tOl_ok : ∀ x ∈ tOl, EntOk Try.prog x := all_cons eGe_ok (all_cons ePt_ok (all_cons eKs_ok (all_cons eSmO_ok (all_cons eWiO_ok (all_cons eRunsO_ok (all_cons eCs_ok (all_cons eKy_ok all_nil)))))))
theorem fl_le (K : List UInt8) (w : List (List UInt8)) : (fl K w).length ≤ w.length := List.length_filter_le _ _
theorem Oi_piece : PieceOk EOl 1 (6, pOi, specOi) := by
  refine piece_loop mixed (calls_envT tOl_ok) (lok_envT _ _) lm_none (n := 100) (by kernel_rfl) (fun _ : GOi => (0 : Nat)) (fun g i => i ≤ g.w.length) (fun g i => g.w.length - i) (sl := slOi) (rl := rlOi) (fun g hg => Nat.zero_le _) (fun g i hg hi => ?_)
  refine (Oi_round g i _ _).mpr ?_
  simp only [ofNat_eq, toNat_cast, Nat.zero_add, Nat.add_zero, Nat.mul_one, List.drop_zero, bCells_len, bCells_drop, bCells_take, bCells_app, bCells_one, bCells_plain, List.length_replicate, List.length_append, List.length_take, List.length_drop, List.take_length, and_true, true_and, and_self, decide_true, List.length_nil, List.length_cons, Nat.sub_zero, dB_mk, dB_ro, List.take_zero, nPl, mC_plain, iCells_plain, sPl, sLen]
  refine br_if (fun q => ?_) (fun q => ?_)
  · have hlt : i < g.w.length := by omega
    obtain ⟨c1, c2⟩ := sGet (g.w ++ g.x) i (by rw [List.length_append]; omega)
    rw [List.getElem_append_left hlt] at c1 c2
    have hfl := fl_le g.K (g.w.take i)
    have htl : (g.w.take i).length ≤ g.w.length := List.length_take_le' _ _
    rw [c2, strEq_bs]
    have ht : g.w.take (i + 1) = g.w.take i ++ [g.w[i]] := List.take_succ_eq_append_getElem hlt
    have hf : fl g.K (g.w.take (i + 1)) = fl g.K (g.w.take i) ++ if g.w[i] = g.K then [] else [g.w[i]] := by
      rw [ht]; unfold fl; rw [List.filter_append]; by_cases e : g.w[i] = g.K <;> simp [e]
    have hw : was g.K (g.w.take (i + 1)) = (was g.K (g.w.take i) || decide (g.w[i] = g.K)) := by
      rw [ht]; unfold was; rw [List.any_append]; simp
    refine br_dec (by omega) ⟨c1, br_if (fun e => ?_) (fun e => ?_)⟩
    · rw [if_pos e, List.append_nil] at hf
      exact ⟨i + 1, by omega, by omega, by rw [hf], by rw [hw, decide_eq_true e, Bool.or_true], (i64_succ (by omega)).symm, by rw [hf]⟩
    · rw [if_neg e] at hf
      refine br_dec (by omega) ⟨c1, br_dec (by omega) (br_dec (by omega) ⟨i + 1, by omega, by omega, by rw [hf, List.length_append]; rfl, by rw [hw, decide_eq_false e, Bool.or_false], (i64_succ (by omega)).symm, ?_⟩)⟩
      rw [hf, ← gC_app]
      generalize fl g.K (g.w.take i) = F
      rw [List.take_of_length_le (by rw [sLen]; exact Nat.le_refl _)]
      rfl
  · have e : g.w.take i = g.w := List.take_of_length_le (by omega)
    rw [e]
    exact ⟨(), rfl, rfl, rfl⟩
theorem key_inj {A B : ByteArray} (h : keyE (pgE A) = keyE (pgE B)) : A = B := by
  have h : keyV htB A slB = keyV htB B slB := h
  rw [z_key, z_key] at h
  obtain ⟨a, rfl⟩ : ∃ l, A = bs l := ⟨L A, rfl⟩
  obtain ⟨b, rfl⟩ : ∃ l, B = bs l := ⟨L B, rfl⟩
  unfold sepB htB slB at h
  simp only [bs_app] at h
  have h := bs_inj h
  simp only [List.append_assoc] at h
  have h := List.append_cancel_right (List.append_cancel_left (List.append_cancel_left h))
  rw [h]
theorem mat0 : matL [] [] [] = true := by decide +kernel
theorem mt_pg (A B : ByteArray) : mtV (keyE (pgE A)) [] (pgE B) = decide (B = A) := by
  unfold mtV
  rw [show (pgE B).e = [] from rfl, show (pgE B).r = [] from rfl, mat0, Bool.and_true]
  exact decide_eq_decide.2 ⟨key_inj, fun h => by rw [h]⟩
theorem find_in (A : ByteArray) : ∀ ks : List ByteArray, A ∈ ks → (ks.map pgE).find? (mtV (keyE (pgE A)) []) = some (pgE A)
  | [], h => by simp at h
  | B :: ks, h => by
    rw [List.map_cons, List.find?_cons, mt_pg]
    by_cases hb : B = A
    · subst hb; simp
    · rw [decide_eq_false hb]
      exact find_in A ks ((List.mem_cons.1 h).resolve_left fun e => hb e.symm)
theorem find_no (A : ByteArray) (ks : List ByteArray) (h : A ∉ ks) : (ks.map pgE).find? (mtV (keyE (pgE A)) []) = none := List.find?_eq_none.2 fun b hb => by
  obtain ⟨C, hC, rfl⟩ := List.mem_map.1 hb
  have : C ≠ A := fun e => h (e ▸ hC)
  rw [mt_pg]; simp [this]
theorem erase_pg (A : ByteArray) : ∀ ks : List ByteArray, ks.Nodup → A ∈ ks → (ks.map pgE).eraseP (mtV (keyE (pgE A)) []) = (ks.filter fun B => decide (B ≠ A)).map pgE
  | [], _, h => by simp at h
  | B :: ks, hn, h => by
    obtain ⟨n1, n2⟩ := List.nodup_cons.1 hn
    by_cases hb : B = A
    · subst hb
      have e : (ks.filter fun C => decide (C ≠ B)) = ks := List.filter_eq_self.2 fun C hC => by
        have : C ≠ B := fun e => n1 (e ▸ hC)
        simp [this]
      rw [List.map_cons, List.eraseP_cons_of_pos (by rw [mt_pg]; simp), List.filter_cons, if_neg (by simp), e]
    · rw [List.map_cons, List.eraseP_cons_of_neg (by rw [mt_pg]; simp [hb]), erase_pg A ks n2 (by
        rcases List.mem_cons.1 h with e | e
        · exact absurd e.symm hb
        · exact e), List.filter_cons]
      simp [hb]
theorem filt_no (A : ByteArray) (ks : List ByteArray) (h : A ∉ ks) : (ks.filter fun B => decide (B ≠ A)) = ks := List.filter_eq_self.2 fun C hC => by
  have : C ≠ A := fun e => h (e ▸ hC)
  simp [this]
theorem filt_pg (A : ByteArray) (ks : List ByteArray) (h : A ∉ ks) : (ks.map pgE).filter (fun b => !mtV (keyE (pgE A)) [] b) = ks.map pgE := List.filter_eq_self.2 fun b hb => by
  obtain ⟨C, hC, rfl⟩ := List.mem_map.1 hb
  have : C ≠ A := fun e => h (e ▸ hC)
  rw [mt_pg]; simp [this]
theorem cos_pg (A : ByteArray) (h : (L A).length = 1) : cosE (pgE A) = 109 := by
  show cosL htB A slB .empty [] [] = 109
  unfold cosL
  rw [h]; rfl
theorem pfx_pg : ∀ (ks : List ByteArray) (b : Nat), (∀ B ∈ ks, (L B).length = 1) → pfx (109 * (b : Int)) (ks.map pgE) = (ks.take b).map pgE
  | [], b, _ => by rw [List.take_nil]; rfl
  | B :: ks, 0, h => by
    rw [List.map_cons, pfx, cos_pg B (h B (by simp)), if_neg (by omega)]; rfl
  | B :: ks, b + 1, h => by
    rw [List.map_cons, pfx, cos_pg B (h B (by simp)), if_pos (by omega), show (109 * ((b + 1 : Nat) : Int) - 109) = 109 * (b : Int) by omega, pfx_pg ks b fun C hC => h C (List.mem_cons_of_mem _ hC)]
    rfl
noncomputable def kk (ks : List ByteArray) : List (List UInt8) := ks.map fun B => L (keyE (pgE B))
theorem keyL_eq (A B : ByteArray) : (L (keyE (pgE B)) = L (keyE (pgE A))) ↔ B = A := ⟨fun h => key_inj (by have := congrArg bs h; exact this), fun h => by rw [h]⟩
theorem fl_pg (A : ByteArray) (ks : List ByteArray) : fl (L (keyE (pgE A))) (kk ks) = kk (ks.filter fun B => decide (B ≠ A)) := by
  unfold fl kk
  rw [List.filter_map]
  refine congrArg _ (List.filter_congr fun B _ => ?_)
  simp only [Function.comp]
  exact decide_eq_decide.2 (not_congr (keyL_eq A B))
theorem was_in (A : ByteArray) (ks : List ByteArray) (h : A ∈ ks) : was (L (keyE (pgE A))) (kk ks) = true := by
  unfold was kk
  exact List.any_eq_true.2 ⟨_, List.mem_map.2 ⟨A, h, rfl⟩, by simp⟩
theorem was_no (A : ByteArray) (ks : List ByteArray) (h : A ∉ ks) : was (L (keyE (pgE A))) (kk ks) = false := by
  unfold was kk
  refine List.any_eq_false.2 fun x hx => ?_
  obtain ⟨C, hC, rfl⟩ := List.mem_map.1 hx
  have : C ≠ A := fun e => h (e ▸ hC)
  simpa using fun e => this ((keyL_eq A C).1 e)
def nx (ks : List ByteArray) (A : ByteArray) (n : Nat) : List ByteArray := (A :: ks.filter fun B => decide (B ≠ A)).take n
theorem filt_lt (A : ByteArray) (ks : List ByteArray) (h : A ∈ ks) : (ks.filter fun B => decide (B ≠ A)).length < ks.length := by
  obtain ⟨a, b, rfl⟩ := List.append_of_mem h
  have h1 := List.length_filter_le (fun B => decide (B ≠ A)) a
  have h2 := List.length_filter_le (fun B => decide (B ≠ A)) b
  rw [List.filter_append, List.filter_cons, if_neg (by simp), List.length_append, List.length_append, List.length_cons]
  omega
theorem step_in (A : ByteArray) (ks : List ByteArray) (n : Nat) (hn : ks.Nodup) (hl : ks.length ≤ n) (h : A ∈ ks) : geV (ks.map pgE) (keyE (pgE A)) [] = (nx ks A n).map pgE := by
  have := filt_lt A ks h
  unfold geV nx
  rw [find_in A ks h, List.take_of_length_le (by rw [List.length_cons]; omega)]
  show pgE A :: _ = _
  rw [erase_pg A ks hn h]; rfl
theorem step_no (A : ByteArray) (ks : List ByteArray) (n : Nat) (h1 : 1 ≤ n) (hks : ∀ B ∈ ks, (L B).length = 1) (hA : (L A).length = 1) (h : A ∉ ks) : geV (ks.map pgE) (keyE (pgE A)) [] = ks.map pgE ∧ puV (109 * (n : Int)) (ks.map pgE) (pgE A) = (nx ks A n).map pgE := by
  constructor
  · unfold geV; rw [find_no A ks h]
  · obtain ⟨k, rfl⟩ : ∃ k, n = k + 1 := ⟨n - 1, by omega⟩
    unfold puV nx
    rw [cos_pg A hA, if_neg (by omega), show (pgE A).e = [] from rfl, filt_pg A ks h, filt_no A ks h, show (109 * ((k + 1 : Nat) : Int) - 109) = 109 * (k : Int) by omega, pfx_pg ks k hks]
    rfl
theorem nx_ok (A : ByteArray) (ks : List ByteArray) (n : Nat) (hn : ks.Nodup) (hks : ∀ B ∈ ks, (L B).length = 1) (hA : (L A).length = 1) : (nx ks A n).Nodup ∧ (nx ks A n).length ≤ n ∧ ∀ B ∈ nx ks A n, (L B).length = 1 := by
  unfold nx
  refine ⟨List.Nodup.sublist (List.take_sublist _ _) (List.nodup_cons.2 ⟨by simp, hn.filter _⟩), List.length_take_le _ _, fun B hB => ?_⟩
  rcases List.mem_cons.1 (List.mem_of_mem_take hB) with rfl | h
  · exact hA
  · exact hks B (List.mem_filter.1 h).1
end Go.Proofs.Ytcjbpmphkmcmjaa.so
