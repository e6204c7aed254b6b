/- StoreRemoves: of some authorities' pages one's are taken out. -/
import Derived.Test.YtcjbpmphkmcmjaaSz9
import Derived.Test.YtcjbpmphkmcmjaaRows
import Derived.Test.YtcjbpmphkmcmjaaLsoT
import Derived.Test.YtcjbpmphkmcmjaaLwit
import Derived.Test.YtcjbpmphkmcmjaaLsbook
import Derived.Test.YtcjbpmphkmcmjaaLsoS
set_option maxRecDepth 20000
set_option linter.unusedSimpArgs false
set_option linter.unusedVariables false
namespace Go.Proofs.Ytcjbpmphkmcmjaa.so
open Go Go.Ev Go.Sy Go.RowKit Go.Proofs.Ytcjbpmphkmcmjaa.gl Go.Proofs.Ytcjbpmphkmcmjaa.tk Go.Proofs.Ytcjbpmphkmcmjaa.cp Go.Proofs.Ytcjbpmphkmcmjaa.ic
noncomputable def tRl : List EntM := [ePt, eKs, eRv, eSmO, eWiO, eRunsO, eKy]
noncomputable abbrev ERl : Env := envT Try.prog tRl
def pRp : List Nat := [0, 1, 0, 1, 1, 1, 1, 1, 1]
def pRk : List Nat := [0, 1, 0, 1, 1, 1, 1, 1, 1, 1, 1]
structure GRl where
  l : List Int
  K : List UInt8
structure TRl where
  s : SS
  i : Nat
noncomputable def rsP (l : List Int) (s : SS) : List (Nat × Row) := [(0, iRo .i64 l), (1, ssR s 2 3 4), (2, gOwn ndC s.nd), (3, iOwn .i64 s.fr), (4, mpR s.m)]
noncomputable def slRp (g : GRl) (t : TRl) : List (Nat × Value) := [(0, .slice (some ⟨0, 0, none⟩) g.l.length 1), (5, .pointer (some ⟨1, 0, none⟩)), (7, .slice none 0 0), (8, .string (bs g.K)), (9, .int .i64 0), (10, .int .i64 (t.i : Nat))]
noncomputable def rlRp (g : GRl) (t : TRl) : List (Nat × Row) := rsP g.l t.s
noncomputable def wsRp (Q : SS → Prop) (g : GRl) : List (Gate SS) := [⟨.exit 0, Q, fun _ => [(5, .pointer (some ⟨1, 0, none⟩)), (7, .slice none 0 0), (8, .string (bs g.K)), (9, .int .i64 0)], fun s => rsP g.l s, 5⟩]
structure GRk where
  l : List Int
  s : SS
  k : List (List UInt8)
  K : List UInt8
def cnK (K : List UInt8) (w : List (List UInt8)) : Nat := w.countP fun x => decide (x = K)
noncomputable def slRk (g : GRk) (i : Nat) : List (Nat × Value) := [(5, .pointer (some ⟨1, 0, none⟩)), (7, .slice (some ⟨6, 0, none⟩) (fl g.K (g.k.take i)).length 1), (8, .string (bs g.K)), (9, .int .i64 (cnK g.K (g.k.take i) : Nat)), (12, .slice (some ⟨5, 0, none⟩) g.k.length 1), (13, .int .i64 (i : Nat))]
noncomputable def rlRk (g : GRk) (i : Nat) : List (Nat × Row) := rsP g.l g.s ++ [(5, gOwn enS g.k), (6, gOwn enS (fl g.K (g.k.take i)))]
noncomputable def wsRk (g : GRk) : List (Gate Unit) := [⟨.exit 2, fun _ => True, fun _ => [(5, .pointer (some ⟨1, 0, none⟩)), (7, .slice (some ⟨6, 0, none⟩) (fl g.K g.k).length 1), (8, .string (bs g.K)), (9, .int .i64 (cnK g.K g.k : Nat))], fun _ => rsP g.l g.s ++ [(6, gOwn enS (fl g.K g.k))], 7⟩]
noncomputable def specRk : Sy.Spec := specOf 1 7 105 (fun g : GRk => g.k.length ≤ 1000) (fun g => slRk g 0) (fun g => rlRk g 0) wsRk
structure Pg where
  A : ByteArray
  b : ByteArray
def pgB (p : Pg) : En := ⟨⟨getB, htB, p.A, slB, 0, 0, 0, p.b, 0, 0⟩, [], []⟩
def OkP (s : SS) (i : Nat) : Prop := s.bud = 16777216 ∧ s.nd.length ≤ i ∧ ∃ ps : List Pg, Vw s (ps.map pgB) ∧ (ps.map Pg.A).Nodup ∧ ∀ p ∈ ps, (L p.A).length = 1 ∧ (L p.b).length ≤ 40
def PreR (g : GRl) : Prop := (∀ x ∈ g.l, I64 x)
noncomputable def specRp : Sy.Spec := specOf 1 5 105 PreR (fun g => slRp g ⟨s0 16777216, 0⟩) (fun g => rlRp g ⟨s0 16777216, 0⟩) (wsRp fun s => OkP s 40)
noncomputable def mRl := mOf [(7, pRp, specRp), (7, pRk, specRk)]
theorem Rp_round (g : GRl) (t : TRl) (Q : SS → Prop) (Inv : TRl → Prop) (m : TRl → Nat) : mev ERl noM 200 7 (0 :: pRp) false (codeOf Try.prog 7 (0 :: pRp)) ⟨mkOv (slRp g t), 105, []⟩ none ⟨mkR (rlRp g t), 5⟩ (roundK 1 5 105 Inv m (slRp g) (rlRp g) (wsRp Q g) t) =
  let z11 := (cellI (iCells IntKind.i64 g.1) (0 + Int.toNat (↑t.2 : Int) * 1)); let z1 := (ByteArray.mk (Array.mk [UInt8.ofNat (Int.toNat (IntKind.wrap IntKind.u8
  (IntKind.wrap IntKind.i64 ((97 : Int) + inside z11 (0 : Int) (9 : Int)))))])); let z9 := (List.replicate (Int.toNat (↑t.2 : Int)) (Value.int IntKind.u8 (0 : Int))); let z2
  := (ByteArray.mk (Array.mk (List.map bOf (List.take (Int.toNat (↑t.2 : Int)) (List.drop 0 z9))))); let z3 := (Row.mk (iCells IntKind.i64 t.1.4) false (Ob.cells true)); let
  z4 := (Row.mk (gC ndC t.1.3) false (Ob.cells true)); let z5 := (ptNd t.1.1 t.1.2 t.1.6 t.1.7 t.1.5 z4 z3 (Row.mk (mC t.1.8) false (Ob.map true)) (ByteArray.mk #[71, 69,
  84]) (ByteArray.mk #[104, 116, 116, 112]) z1 (ByteArray.mk #[47]) (Row.mk [] true (Ob.cells true)) (0 : Int) (0 : Int) (Row.mk [] true (Ob.cells true)) (0 : Int) z2 (0 :
  Int) (0 : Int)); let z6 := (ptFr t.1.1 t.1.2 t.1.6 t.1.7 t.1.5 z4 z3 (Row.mk (mC t.1.8) false (Ob.map true)) (ByteArray.mk #[71, 69, 84]) (ByteArray.mk #[104, 116, 116,
  112]) z1 (ByteArray.mk #[47]) (Row.mk [] true (Ob.cells true)) (0 : Int) (0 : Int) (Row.mk [] true (Ob.cells true)) (0 : Int) z2 (0 : Int) (0 : Int)); let z7 := (ptMc
  t.1.1 t.1.2 t.1.6 t.1.7 t.1.5 z4 z3 (Row.mk (mC t.1.8) false (Ob.map true)) (ByteArray.mk #[71, 69, 84]) (ByteArray.mk #[104, 116, 116, 112]) z1 (ByteArray.mk #[47])
  (Row.mk [] true (Ob.cells true)) (0 : Int) (0 : Int) (Row.mk [] true (Ob.cells true)) (0 : Int) z2 (0 : Int) (0 : Int)); let z8 := (Eq (α := List Value) (iCells
  IntKind.i64 g.1) (iCells IntKind.i64 g.1)); let z10 := (True /\ (True /\ (True /\ (True /\ (True /\ (True /\ (True /\ True))))))); (br (decide ((↑t.2 : Int) < Int.ofNat
  (List.length g.1))) (br (decide ((↑t.2 : Int) < (40 : Int))) (br (decide ((0 : Int) <= (↑t.2 : Int) /\ (↑t.2 : Int) < (↑(List.length g.1) : Int))) ((Eq (α := Option Value)
  ((iCells IntKind.i64 g.1)[0 + Int.toNat (↑t.2 : Int) * 1]?) (some (Value.int IntKind.i64 z11))) /\ ((((True /\ (True /\ (True /\ True))) /\ (True /\ (True /\ (I64 z11 /\
  ((-1000000000000 : Int) <= (0 : Int) /\ ((9 : Int) <= (1000000000000 : Int) /\ (0 : Int) <= (9 : Int)))))))) /\ (br (decide ((0 : Int) <= (↑t.2 : Int) /\ (↑t.2 : Int) <=
  (↑t.2 : Int) /\ (↑t.2 : Int) <= (16777216 : Int))) (br (decide (0 + Int.toNat (↑t.2 : Int) <= List.length z9)) ((AllB (List.take (Int.toNat (↑t.2 : Int)) (List.drop 0
  z9))) /\ ((((True /\ ((True /\ (True /\ (True /\ (True /\ (True /\ z10))))) /\ True)) /\ ((z10 /\ (True /\ (True /\ (Plain (gC ndC t.1.3) /\ (Plain (iCells IntKind.i64
  t.1.4) /\ (Plain (mC t.1.8) /\ True)))))) /\ ((Plain z5 /\ (Plain z6 /\ (Plain z7 /\ True))) /\ (TOk (ByteArray.mk #[104, 116, 116, 112]) /\ (TOk z1 /\ (TOk (ByteArray.mk
  #[47]) /\ (TOk z2 /\ (IsF (Row.mk [] true (Ob.cells true)) 0 /\ (IsF (Row.mk [] true (Ob.cells true)) 0 /\ (FVR (Row.mk [] true (Ob.cells true)) /\ (FVR (Row.mk [] true
  (Ob.cells true)) /\ (t.1.1 <= (1099511627776 : Int) /\ PDr t.1.1 t.1.2 t.1.6 t.1.7 t.1.5 (List.length t.1.3) z4 z3 (Row.mk (mC t.1.8) false (Ob.map true))))))))))))))) /\
  (br (!ptB0 t.1.1 t.1.2 t.1.6 t.1.7 t.1.5 z4 z3 (Row.mk (mC t.1.8) false (Ob.map true)) (ByteArray.mk #[71, 69, 84]) (ByteArray.mk #[104, 116, 116, 112]) z1 (ByteArray.mk
  #[47]) (Row.mk [] true (Ob.cells true)) (0 : Int) (0 : Int) (Row.mk [] true (Ob.cells true)) (0 : Int) z2 (0 : Int) (0 : Int)) False (∃ j : TRl, ((Inv j) /\ ((m j < m t)
  /\ ((0 = 0) /\ ((List.length g.1 = List.length g.1) /\ ((0 = 0) /\ ((bs g.2 = bs g.2) /\ (((0 : Int) = (0 : Int)) /\ (((↑j.2 : Int) = IntKind.wrap IntKind.i64 ((↑t.2 :
  Int) + (1 : Int))) /\ (z8 /\ ((Plain (iCells IntKind.i64 g.1)) /\ ((j.1.1 = t.1.1) /\ ((j.1.2 = ptSiz t.1.1 t.1.2 t.1.6 t.1.7 t.1.5 z4 z3 (Row.mk (mC t.1.8) false (Ob.map
  true)) (ByteArray.mk #[71, 69, 84]) (ByteArray.mk #[104, 116, 116, 112]) z1 (ByteArray.mk #[47]) (Row.mk [] true (Ob.cells true)) (0 : Int) (0 : Int) (Row.mk [] true
  (Ob.cells true)) (0 : Int) z2 (0 : Int) (0 : Int)) /\ ((0 = 0) /\ ((List.length j.1.3 = ptLn t.1.1 t.1.2 t.1.6 t.1.7 t.1.5 z4 z3 (Row.mk (mC t.1.8) false (Ob.map true))
  (ByteArray.mk #[71, 69, 84]) (ByteArray.mk #[104, 116, 116, 112]) z1 (ByteArray.mk #[47]) (Row.mk [] true (Ob.cells true)) (0 : Int) (0 : Int) (Row.mk [] true (Ob.cells
  true)) (0 : Int) z2 (0 : Int) (0 : Int)) /\ ((0 = 0) /\ ((j.1.5 = ptFn t.1.1 t.1.2 t.1.6 t.1.7 t.1.5 z4 z3 (Row.mk (mC t.1.8) false (Ob.map true)) (ByteArray.mk #[71, 69,
  84]) (ByteArray.mk #[104, 116, 116, 112]) z1 (ByteArray.mk #[47]) (Row.mk [] true (Ob.cells true)) (0 : Int) (0 : Int) (Row.mk [] true (Ob.cells true)) (0 : Int) z2 (0 :
  Int) (0 : Int)) /\ ((j.1.6 = ptNw t.1.1 t.1.2 t.1.6 t.1.7 t.1.5 z4 z3 (Row.mk (mC t.1.8) false (Ob.map true)) (ByteArray.mk #[71, 69, 84]) (ByteArray.mk #[104, 116, 116,
  112]) z1 (ByteArray.mk #[47]) (Row.mk [] true (Ob.cells true)) (0 : Int) (0 : Int) (Row.mk [] true (Ob.cells true)) (0 : Int) z2 (0 : Int) (0 : Int)) /\ ((j.1.7 = ptOl
  t.1.1 t.1.2 t.1.6 t.1.7 t.1.5 z4 z3 (Row.mk (mC t.1.8) false (Ob.map true)) (ByteArray.mk #[71, 69, 84]) (ByteArray.mk #[104, 116, 116, 112]) z1 (ByteArray.mk #[47])
  (Row.mk [] true (Ob.cells true)) (0 : Int) (0 : Int) (Row.mk [] true (Ob.cells true)) (0 : Int) z2 (0 : Int) (0 : Int)) /\ ((Eq (α := List Value) (gC ndC j.1.3) z5) /\
  ((Plain (gC ndC j.1.3)) /\ ((Eq (α := List Value) (iCells IntKind.i64 j.1.4) z6) /\ ((Plain (iCells IntKind.i64 j.1.4)) /\ ((Eq (α := List Value) (mC j.1.8) z7) /\ ((Plain
  (mC j.1.8)) /\ True)))))))))))))))))))))))))))) False) False))) False) (∃ y : SS, ((Q y) /\ ((0 = 0) /\ ((bs g.2 = bs g.2) /\ (((0 : Int) = (0 : Int)) /\ (z8 /\ ((Plain
  (iCells IntKind.i64 g.1)) /\ ((y.1 = t.1.1) /\ ((y.2 = t.1.2) /\ ((0 = 0) /\ ((List.length y.3 = List.length t.1.3) /\ ((0 = 0) /\ ((y.5 = t.1.5) /\ ((y.6 = t.1.6) /\
  ((y.7 = t.1.7) /\ ((Eq (α := List Value) (gC ndC y.3) (gC ndC t.1.3)) /\ ((Plain (gC ndC y.3)) /\ ((Eq (α := List Value) (iCells IntKind.i64 y.4) (iCells IntKind.i64
  t.1.4)) /\ ((Plain (iCells IntKind.i64 y.4)) /\ ((Eq (α := List Value) (mC y.8) (mC t.1.8)) /\ ((Plain (mC y.8)) /\ True)))))))))))))))))))))) (∃ y : SS, ((Q y) /\ ((0 =
  0) /\ ((bs g.2 = bs g.2) /\ (((0 : Int) = (0 : Int)) /\ (z8 /\ ((Plain (iCells IntKind.i64 g.1)) /\ ((y.1 = t.1.1) /\ ((y.2 = t.1.2) /\ ((0 = 0) /\ ((List.length y.3 =
  List.length t.1.3) /\ ((0 = 0) /\ ((y.5 = t.1.5) /\ ((y.6 = t.1.6) /\ ((y.7 = t.1.7) /\ ((Eq (α := List Value) (gC ndC y.3) (gC ndC t.1.3)) /\ ((Plain (gC ndC y.3)) /\
  ((Eq (α := List Value) (iCells IntKind.i64 y.4) (iCells IntKind.i64 t.1.4)) /\ ((Plain (iCells IntKind.i64 y.4)) /\ ((Eq (α := List Value) (mC y.8) (mC t.1.8)) /\ ((Plain
  (mC y.8)) /\ True)))))))))))))))))))))) := by kernel_rfl
theorem Rk_round (g : GRk) (i : Nat) (Inv : Nat → Prop) (m : Nat → Nat) : mev ERl noM 200 7 (0 :: pRk) false (codeOf Try.prog 7 (0 :: pRk)) ⟨mkOv (slRk g i), 105, []⟩ none ⟨mkR (rlRk g i), 7⟩ (roundK 1 7 105 Inv m (slRk g) (rlRk g) (wsRk g) i) =
  let z1 := (Eq (α := List Value) (iCells IntKind.i64 g.2.4) (iCells IntKind.i64 g.2.4)); let z6 := (cellS (gC enS g.3) (0 + Int.toNat (↑i : Int) * 1)); let z2 := (Eq (α :=
  Option Value) ((gC enS g.3)[0 + Int.toNat (↑i : Int) * 1]?) (some (Value.string z6))); let z3 := (Eq (α := List Value) (iCells IntKind.i64 g.1) (iCells IntKind.i64 g.1));
  let z4 := (Eq (α := List Value) (gC ndC g.2.3) (gC ndC g.2.3)); let z5 := (decide ((0 : Int) <= (↑i : Int) /\ (↑i : Int) < (↑(List.length g.3) : Int))); let z7 := (Eq (α
  := List Value) (gC enS g.3) (gC enS g.3)); (br (decide ((↑i : Int) < Int.ofNat (List.length g.3))) (br z5 (z2 /\ (br (strEq z6 (bs g.4)) (∃ j : Nat, ((Inv j) /\ ((m j < m
  i) /\ ((0 = 0) /\ ((0 = 0) /\ ((List.length (fl g.4 (List.take j g.3)) = List.length (fl g.4 (List.take i g.3))) /\ ((bs g.4 = bs g.4) /\ (((↑(cnK g.4 (List.take j g.3)) :
  Int) = IntKind.wrap IntKind.i64 ((↑(cnK g.4 (List.take i g.3)) : Int) + (1 : Int))) /\ ((0 = 0) /\ ((List.length g.3 = List.length g.3) /\ (((↑j : Int) = IntKind.wrap
  IntKind.i64 ((↑i : Int) + (1 : Int))) /\ (z3 /\ ((Plain (iCells IntKind.i64 g.1)) /\ ((g.2.1 = g.2.1) /\ ((g.2.2 = g.2.2) /\ ((0 = 0) /\ ((List.length g.2.3 = List.length
  g.2.3) /\ ((0 = 0) /\ ((g.2.5 = g.2.5) /\ ((g.2.6 = g.2.6) /\ ((g.2.7 = g.2.7) /\ (z4 /\ ((Plain (gC ndC g.2.3)) /\ (z1 /\ ((Plain (iCells IntKind.i64 g.2.4)) /\ ((Eq (α
  := List Value) (mC g.2.8) (mC g.2.8)) /\ ((Plain (mC g.2.8)) /\ (z7 /\ ((Plain (gC enS g.3)) /\ ((Eq (α := List Value) (gC enS (fl g.4 (List.take j g.3))) (gC enS (fl g.4
  (List.take i g.3)))) /\ ((Plain (gC enS (fl g.4 (List.take j g.3)))) /\ True))))))))))))))))))))))))))))))) (br z5 (z2 /\ (br (decide (List.length (fl g.4 (List.take i
  g.3)) + 1 <= 16777216)) (br (decide (0 + List.length (fl g.4 (List.take i g.3)) * 1 <= List.length (gC enS (fl g.4 (List.take i g.3))))) (∃ j : Nat, ((Inv j) /\ ((m j < m
  i) /\ ((0 = 0) /\ ((0 = 0) /\ ((List.length (fl g.4 (List.take j g.3)) = List.length (fl g.4 (List.take i g.3)) + 1) /\ ((bs g.4 = bs g.4) /\ (((↑(cnK g.4 (List.take j
  g.3)) : Int) = (↑(cnK g.4 (List.take i g.3)) : Int)) /\ ((0 = 0) /\ ((List.length g.3 = List.length g.3) /\ (((↑j : Int) = IntKind.wrap IntKind.i64 ((↑i : Int) + (1 :
  Int))) /\ (z3 /\ ((Plain (iCells IntKind.i64 g.1)) /\ ((g.2.1 = g.2.1) /\ ((g.2.2 = g.2.2) /\ ((0 = 0) /\ ((List.length g.2.3 = List.length g.2.3) /\ ((0 = 0) /\ ((g.2.5 =
  g.2.5) /\ ((g.2.6 = g.2.6) /\ ((g.2.7 = g.2.7) /\ (z4 /\ ((Plain (gC ndC g.2.3)) /\ (z1 /\ ((Plain (iCells IntKind.i64 g.2.4)) /\ ((Eq (α := List Value) (mC g.2.8) (mC
  g.2.8)) /\ ((Plain (mC g.2.8)) /\ (z7 /\ ((Plain (gC enS g.3)) /\ ((Eq (α := List Value) (gC enS (fl g.4 (List.take j g.3))) (List.take (List.length (fl g.4 (List.take i
  g.3)) * 1) (List.drop 0 (gC enS (fl g.4 (List.take i g.3)))) ++ [Value.string z6])) /\ ((Plain (gC enS (fl g.4 (List.take j g.3)))) /\ True)))))))))))))))))))))))))))))))
  False) False)) False))) False) (∃ y : Unit, ((True) /\ ((0 = 0) /\ ((0 = 0) /\ ((List.length (fl g.4 g.3) = List.length (fl g.4 (List.take i g.3))) /\ ((bs g.4 = bs g.4)
  /\ (((↑(cnK g.4 g.3) : Int) = (↑(cnK g.4 (List.take i g.3)) : Int)) /\ (z3 /\ ((Plain (iCells IntKind.i64 g.1)) /\ ((g.2.1 = g.2.1) /\ ((g.2.2 = g.2.2) /\ ((0 = 0) /\
  ((List.length g.2.3 = List.length g.2.3) /\ ((0 = 0) /\ ((g.2.5 = g.2.5) /\ ((g.2.6 = g.2.6) /\ ((g.2.7 = g.2.7) /\ (z4 /\ ((Plain (gC ndC g.2.3)) /\ (z1 /\ ((Plain
  (iCells IntKind.i64 g.2.4)) /\ ((Eq (α := List Value) (mC g.2.8) (mC g.2.8)) /\ ((Plain (mC g.2.8)) /\ ((Eq (α := List Value) (gC enS (fl g.4 g.3)) (gC enS (fl g.4
  (List.take i g.3)))) /\ ((Plain (gC enS (fl g.4 g.3))) /\ True)))))))))))))))))))))))))) := by kernel_rfl
theorem Rl_vc (l : List Int) (n : Int) : mcall ERl mRl 400 7 [.slice (some ⟨0, 0, none⟩) l.length 1, .int .i64 n] ⟨mkR (nums 0 [iRo .i64 l]), 1⟩ (retIs 1 (.bool true) [iRo .i64 l]) =
  let z1 := (True /\ (True /\ (True /\ (True /\ (True /\ (True /\ True)))))); let z2 := (ByteArray.mk (Array.mk [UInt8.ofNat (Int.toNat (IntKind.wrap IntKind.u8
  (IntKind.wrap IntKind.i64 ((97 : Int) + inside n (0 : Int) (9 : Int)))))])); ((((True /\ (True /\ (True /\ True))) /\ (True /\ (True /\ (I64 n /\ ((-1000000000000 : Int)
  <= (0 : Int) /\ ((9 : Int) <= (1000000000000 : Int) /\ (0 : Int) <= (9 : Int)))))))) /\ ((AllB (List.take (Int.toNat (0 : Int)) (List.drop 0 (List.replicate (Int.toNat (0
  : Int)) (Value.int IntKind.u8 (0 : Int)))))) /\ ((((z1 /\ True) /\ ((True /\ True) /\ (True /\ (TOk (ByteArray.mk #[104, 116, 116, 112]) /\ (TOk z2 /\ (TOk (ByteArray.mk
  #[47]) /\ IsF (Row.mk [] true (Ob.cells true)) 0))))))) /\ (∃ g : GRl, ((PreR g) /\ ((0 = 0) /\ ((List.length g.1 = List.length l) /\ ((0 = 0) /\ ((bs g.2 = keyV
  (ByteArray.mk #[104, 116, 116, 112]) z2 (ByteArray.mk #[47])) /\ (((0 : Int) = (0 : Int)) /\ (((0 : Int) = (0 : Int)) /\ ((Eq (α := List Value) (iCells IntKind.i64 g.1)
  (iCells IntKind.i64 l)) /\ ((Plain (iCells IntKind.i64 g.1)) /\ (((16777216 : Int) = (16777216 : Int)) /\ (((0 : Int) = (0 : Int)) /\ ((0 = 0) /\ ((0 = 0) /\ (((-1 : Int)
  = (-1 : Int)) /\ (((-1 : Int) = (-1 : Int)) /\ ((Eq (α := List Value) ([]) ([])) /\ ((Eq (α := List Value) ([]) ([])) /\ ((Eq (α := List Value) ([]) ([])) /\ ((Plain (mC
  (SS.m (TRl.s (TRl.mk (s0 (16777216 : Int)) 0))))) /\ (∀ (y : SS), ((OkP y 40) → ((((True /\ True) /\ (((True /\ z1) /\ (Plain (gC ndC y.3) /\ (Plain (iCells IntKind.i64
  y.4) /\ (Plain (mC y.8) /\ True)))) /\ ((Plain (gC ndC y.3) /\ (Plain (iCells IntKind.i64 y.4) /\ (Plain (mC y.8) /\ (Plain (kyC y.1 y.2 y.6 y.7 y.5 (Row.mk (gC ndC y.3)
  false (Ob.cells true)) (Row.mk (iCells IntKind.i64 y.4) false (Ob.cells true)) (Row.mk (mC y.8) false (Ob.map true))) /\ True)))) /\ PDr y.1 y.2 y.6 y.7 y.5 (List.length
  y.3) (Row.mk (gC ndC y.3) false (Ob.cells true)) (Row.mk (iCells IntKind.i64 y.4) false (Ob.cells true)) (Row.mk (mC y.8) false (Ob.map true)))))) /\ (∃ g2 : GRk,
  ((List.length g2.3 <= 1000) /\ ((0 = 0) /\ ((0 = 0) /\ ((bs g2.4 = bs g.2) /\ (((↑(cnK g2.4 []) : Int) = (0 : Int)) /\ ((0 = 0) /\ ((List.length g2.3 = kyN y.1 y.2 y.6 y.7
  y.5 (Row.mk (gC ndC y.3) false (Ob.cells true)) (Row.mk (iCells IntKind.i64 y.4) false (Ob.cells true)) (Row.mk (mC y.8) false (Ob.map true))) /\ (((0 : Int) = (0 : Int))
  /\ ((Eq (α := List Value) (iCells IntKind.i64 g2.1) (iCells IntKind.i64 g.1)) /\ ((Plain (iCells IntKind.i64 g2.1)) /\ ((g2.2.1 = y.1) /\ ((g2.2.2 = y.2) /\ ((0 = 0) /\
  ((List.length g2.2.3 = List.length y.3) /\ ((0 = 0) /\ ((g2.2.5 = y.5) /\ ((g2.2.6 = y.6) /\ ((g2.2.7 = y.7) /\ ((Eq (α := List Value) (gC ndC g2.2.3) (gC ndC y.3)) /\
  ((Plain (gC ndC g2.2.3)) /\ ((Eq (α := List Value) (iCells IntKind.i64 g2.2.4) (iCells IntKind.i64 y.4)) /\ ((Plain (iCells IntKind.i64 g2.2.4)) /\ ((Eq (α := List Value)
  (mC g2.2.8) (mC y.8)) /\ ((Plain (mC g2.2.8)) /\ ((Eq (α := List Value) (gC enS g2.3) (kyC y.1 y.2 y.6 y.7 y.5 (Row.mk (gC ndC y.3) false (Ob.cells true)) (Row.mk (iCells
  IntKind.i64 y.4) false (Ob.cells true)) (Row.mk (mC y.8) false (Ob.map true)))) /\ ((Plain (gC enS g2.3)) /\ ((Eq (α := List Value) ([]) ([])) /\ (∀ (y2 : Unit), ((True) →
  ((((True /\ (True /\ True)) /\ (((True /\ z1) /\ (Plain (gC ndC g2.2.3) /\ (Plain (iCells IntKind.i64 g2.2.4) /\ (Plain (mC g2.2.8) /\ True)))) /\ ((Plain (dtNd g2.2.1
  g2.2.2 g2.2.6 g2.2.7 g2.2.5 (Row.mk (gC ndC g2.2.3) false (Ob.cells true)) (Row.mk (iCells IntKind.i64 g2.2.4) false (Ob.cells true)) (Row.mk (mC g2.2.8) false (Ob.map
  true)) (bs g2.4)) /\ (Plain (dtFr g2.2.1 g2.2.2 g2.2.6 g2.2.7 g2.2.5 (Row.mk (gC ndC g2.2.3) false (Ob.cells true)) (Row.mk (iCells IntKind.i64 g2.2.4) false (Ob.cells
  true)) (Row.mk (mC g2.2.8) false (Ob.map true)) (bs g2.4)) /\ (Plain (dtMc g2.2.1 g2.2.2 g2.2.6 g2.2.7 g2.2.5 (Row.mk (gC ndC g2.2.3) false (Ob.cells true)) (Row.mk
  (iCells IntKind.i64 g2.2.4) false (Ob.cells true)) (Row.mk (mC g2.2.8) false (Ob.map true)) (bs g2.4)) /\ True))) /\ PDr g2.2.1 g2.2.2 g2.2.6 g2.2.7 g2.2.5 (List.length
  g2.2.3) (Row.mk (gC ndC g2.2.3) false (Ob.cells true)) (Row.mk (iCells IntKind.i64 g2.2.4) false (Ob.cells true)) (Row.mk (mC g2.2.8) false (Ob.map true)))))) /\ (br (rvV
  g2.2.1 g2.2.2 g2.2.6 g2.2.7 g2.2.5 (Row.mk (gC ndC g2.2.3) false (Ob.cells true)) (Row.mk (iCells IntKind.i64 g2.2.4) false (Ob.cells true)) (Row.mk (mC g2.2.8) false
  (Ob.map true)) (List.length g2.2.3) (bs g2.4) == (↑(cnK g2.4 g2.3) : Int)) (br (decide ((↑(cnK g2.4 g2.3) : Int) <= (1 : Int))) ((((True /\ True) /\ (((True /\ z1) /\
  (Plain (dtNd g2.2.1 g2.2.2 g2.2.6 g2.2.7 g2.2.5 (Row.mk (gC ndC g2.2.3) false (Ob.cells true)) (Row.mk (iCells IntKind.i64 g2.2.4) false (Ob.cells true)) (Row.mk (mC
  g2.2.8) false (Ob.map true)) (bs g2.4)) /\ (Plain (dtFr g2.2.1 g2.2.2 g2.2.6 g2.2.7 g2.2.5 (Row.mk (gC ndC g2.2.3) false (Ob.cells true)) (Row.mk (iCells IntKind.i64
  g2.2.4) false (Ob.cells true)) (Row.mk (mC g2.2.8) false (Ob.map true)) (bs g2.4)) /\ (Plain (dtMc g2.2.1 g2.2.2 g2.2.6 g2.2.7 g2.2.5 (Row.mk (gC ndC g2.2.3) false
  (Ob.cells true)) (Row.mk (iCells IntKind.i64 g2.2.4) false (Ob.cells true)) (Row.mk (mC g2.2.8) false (Ob.map true)) (bs g2.4)) /\ True)))) /\ ((Plain (dtNd g2.2.1 g2.2.2
  g2.2.6 g2.2.7 g2.2.5 (Row.mk (gC ndC g2.2.3) false (Ob.cells true)) (Row.mk (iCells IntKind.i64 g2.2.4) false (Ob.cells true)) (Row.mk (mC g2.2.8) false (Ob.map true)) (bs
  g2.4)) /\ (Plain (dtFr g2.2.1 g2.2.2 g2.2.6 g2.2.7 g2.2.5 (Row.mk (gC ndC g2.2.3) false (Ob.cells true)) (Row.mk (iCells IntKind.i64 g2.2.4) false (Ob.cells true)) (Row.mk
  (mC g2.2.8) false (Ob.map true)) (bs g2.4)) /\ (Plain (dtMc g2.2.1 g2.2.2 g2.2.6 g2.2.7 g2.2.5 (Row.mk (gC ndC g2.2.3) false (Ob.cells true)) (Row.mk (iCells IntKind.i64
  g2.2.4) false (Ob.cells true)) (Row.mk (mC g2.2.8) false (Ob.map true)) (bs g2.4)) /\ (Plain (kyC g2.2.1 (dtSiz g2.2.1 g2.2.2 g2.2.6 g2.2.7 g2.2.5 (Row.mk (gC ndC g2.2.3)
  false (Ob.cells true)) (Row.mk (iCells IntKind.i64 g2.2.4) false (Ob.cells true)) (Row.mk (mC g2.2.8) false (Ob.map true)) (bs g2.4)) (dtNw g2.2.1 g2.2.2 g2.2.6 g2.2.7
  g2.2.5 (Row.mk (gC ndC g2.2.3) false (Ob.cells true)) (Row.mk (iCells IntKind.i64 g2.2.4) false (Ob.cells true)) (Row.mk (mC g2.2.8) false (Ob.map true)) (bs g2.4)) (dtOl
  g2.2.1 g2.2.2 g2.2.6 g2.2.7 g2.2.5 (Row.mk (gC ndC g2.2.3) false (Ob.cells true)) (Row.mk (iCells IntKind.i64 g2.2.4) false (Ob.cells true)) (Row.mk (mC g2.2.8) false
  (Ob.map true)) (bs g2.4)) (dtFn g2.2.1 g2.2.2 g2.2.6 g2.2.7 g2.2.5 (Row.mk (gC ndC g2.2.3) false (Ob.cells true)) (Row.mk (iCells IntKind.i64 g2.2.4) false (Ob.cells
  true)) (Row.mk (mC g2.2.8) false (Ob.map true)) (bs g2.4)) (Row.mk (dtNd g2.2.1 g2.2.2 g2.2.6 g2.2.7 g2.2.5 (Row.mk (gC ndC g2.2.3) false (Ob.cells true)) (Row.mk (iCells
  IntKind.i64 g2.2.4) false (Ob.cells true)) (Row.mk (mC g2.2.8) false (Ob.map true)) (bs g2.4)) false (Ob.cells true)) (Row.mk (dtFr g2.2.1 g2.2.2 g2.2.6 g2.2.7 g2.2.5
  (Row.mk (gC ndC g2.2.3) false (Ob.cells true)) (Row.mk (iCells IntKind.i64 g2.2.4) false (Ob.cells true)) (Row.mk (mC g2.2.8) false (Ob.map true)) (bs g2.4)) false
  (Ob.cells true)) (Row.mk (dtMc g2.2.1 g2.2.2 g2.2.6 g2.2.7 g2.2.5 (Row.mk (gC ndC g2.2.3) false (Ob.cells true)) (Row.mk (iCells IntKind.i64 g2.2.4) false (Ob.cells true))
  (Row.mk (mC g2.2.8) false (Ob.map true)) (bs g2.4)) false (Ob.map true))) /\ True)))) /\ PDr g2.2.1 (dtSiz g2.2.1 g2.2.2 g2.2.6 g2.2.7 g2.2.5 (Row.mk (gC ndC g2.2.3) false
  (Ob.cells true)) (Row.mk (iCells IntKind.i64 g2.2.4) false (Ob.cells true)) (Row.mk (mC g2.2.8) false (Ob.map true)) (bs g2.4)) (dtNw g2.2.1 g2.2.2 g2.2.6 g2.2.7 g2.2.5
  (Row.mk (gC ndC g2.2.3) false (Ob.cells true)) (Row.mk (iCells IntKind.i64 g2.2.4) false (Ob.cells true)) (Row.mk (mC g2.2.8) false (Ob.map true)) (bs g2.4)) (dtOl g2.2.1
  g2.2.2 g2.2.6 g2.2.7 g2.2.5 (Row.mk (gC ndC g2.2.3) false (Ob.cells true)) (Row.mk (iCells IntKind.i64 g2.2.4) false (Ob.cells true)) (Row.mk (mC g2.2.8) false (Ob.map
  true)) (bs g2.4)) (dtFn g2.2.1 g2.2.2 g2.2.6 g2.2.7 g2.2.5 (Row.mk (gC ndC g2.2.3) false (Ob.cells true)) (Row.mk (iCells IntKind.i64 g2.2.4) false (Ob.cells true))
  (Row.mk (mC g2.2.8) false (Ob.map true)) (bs g2.4)) (List.length g2.2.3) (Row.mk (dtNd g2.2.1 g2.2.2 g2.2.6 g2.2.7 g2.2.5 (Row.mk (gC ndC g2.2.3) false (Ob.cells true))
  (Row.mk (iCells IntKind.i64 g2.2.4) false (Ob.cells true)) (Row.mk (mC g2.2.8) false (Ob.map true)) (bs g2.4)) false (Ob.cells true)) (Row.mk (dtFr g2.2.1 g2.2.2 g2.2.6
  g2.2.7 g2.2.5 (Row.mk (gC ndC g2.2.3) false (Ob.cells true)) (Row.mk (iCells IntKind.i64 g2.2.4) false (Ob.cells true)) (Row.mk (mC g2.2.8) false (Ob.map true)) (bs g2.4))
  false (Ob.cells true)) (Row.mk (dtMc g2.2.1 g2.2.2 g2.2.6 g2.2.7 g2.2.5 (Row.mk (gC ndC g2.2.3) false (Ob.cells true)) (Row.mk (iCells IntKind.i64 g2.2.4) false (Ob.cells
  true)) (Row.mk (mC g2.2.8) false (Ob.map true)) (bs g2.4)) false (Ob.map true)))))) /\ (((((0 + kyN g2.2.1 (dtSiz g2.2.1 g2.2.2 g2.2.6 g2.2.7 g2.2.5 (Row.mk (gC ndC
  g2.2.3) false (Ob.cells true)) (Row.mk (iCells IntKind.i64 g2.2.4) false (Ob.cells true)) (Row.mk (mC g2.2.8) false (Ob.map true)) (bs g2.4)) (dtNw g2.2.1 g2.2.2 g2.2.6
  g2.2.7 g2.2.5 (Row.mk (gC ndC g2.2.3) false (Ob.cells true)) (Row.mk (iCells IntKind.i64 g2.2.4) false (Ob.cells true)) (Row.mk (mC g2.2.8) false (Ob.map true)) (bs g2.4))
  (dtOl g2.2.1 g2.2.2 g2.2.6 g2.2.7 g2.2.5 (Row.mk (gC ndC g2.2.3) false (Ob.cells true)) (Row.mk (iCells IntKind.i64 g2.2.4) false (Ob.cells true)) (Row.mk (mC g2.2.8)
  false (Ob.map true)) (bs g2.4)) (dtFn g2.2.1 g2.2.2 g2.2.6 g2.2.7 g2.2.5 (Row.mk (gC ndC g2.2.3) false (Ob.cells true)) (Row.mk (iCells IntKind.i64 g2.2.4) false (Ob.cells
  true)) (Row.mk (mC g2.2.8) false (Ob.map true)) (bs g2.4)) (Row.mk (dtNd g2.2.1 g2.2.2 g2.2.6 g2.2.7 g2.2.5 (Row.mk (gC ndC g2.2.3) false (Ob.cells true)) (Row.mk (iCells
  IntKind.i64 g2.2.4) false (Ob.cells true)) (Row.mk (mC g2.2.8) false (Ob.map true)) (bs g2.4)) false (Ob.cells true)) (Row.mk (dtFr g2.2.1 g2.2.2 g2.2.6 g2.2.7 g2.2.5
  (Row.mk (gC ndC g2.2.3) false (Ob.cells true)) (Row.mk (iCells IntKind.i64 g2.2.4) false (Ob.cells true)) (Row.mk (mC g2.2.8) false (Ob.map true)) (bs g2.4)) false
  (Ob.cells true)) (Row.mk (dtMc g2.2.1 g2.2.2 g2.2.6 g2.2.7 g2.2.5 (Row.mk (gC ndC g2.2.3) false (Ob.cells true)) (Row.mk (iCells IntKind.i64 g2.2.4) false (Ob.cells true))
  (Row.mk (mC g2.2.8) false (Ob.map true)) (bs g2.4)) false (Ob.map true)) * 1 <= List.length (kyC g2.2.1 (dtSiz g2.2.1 g2.2.2 g2.2.6 g2.2.7 g2.2.5 (Row.mk (gC ndC g2.2.3)
  false (Ob.cells true)) (Row.mk (iCells IntKind.i64 g2.2.4) false (Ob.cells true)) (Row.mk (mC g2.2.8) false (Ob.map true)) (bs g2.4)) (dtNw g2.2.1 g2.2.2 g2.2.6 g2.2.7
  g2.2.5 (Row.mk (gC ndC g2.2.3) false (Ob.cells true)) (Row.mk (iCells IntKind.i64 g2.2.4) false (Ob.cells true)) (Row.mk (mC g2.2.8) false (Ob.map true)) (bs g2.4)) (dtOl
  g2.2.1 g2.2.2 g2.2.6 g2.2.7 g2.2.5 (Row.mk (gC ndC g2.2.3) false (Ob.cells true)) (Row.mk (iCells IntKind.i64 g2.2.4) false (Ob.cells true)) (Row.mk (mC g2.2.8) false
  (Ob.map true)) (bs g2.4)) (dtFn g2.2.1 g2.2.2 g2.2.6 g2.2.7 g2.2.5 (Row.mk (gC ndC g2.2.3) false (Ob.cells true)) (Row.mk (iCells IntKind.i64 g2.2.4) false (Ob.cells
  true)) (Row.mk (mC g2.2.8) false (Ob.map true)) (bs g2.4)) (Row.mk (dtNd g2.2.1 g2.2.2 g2.2.6 g2.2.7 g2.2.5 (Row.mk (gC ndC g2.2.3) false (Ob.cells true)) (Row.mk (iCells
  IntKind.i64 g2.2.4) false (Ob.cells true)) (Row.mk (mC g2.2.8) false (Ob.map true)) (bs g2.4)) false (Ob.cells true)) (Row.mk (dtFr g2.2.1 g2.2.2 g2.2.6 g2.2.7 g2.2.5
  (Row.mk (gC ndC g2.2.3) false (Ob.cells true)) (Row.mk (iCells IntKind.i64 g2.2.4) false (Ob.cells true)) (Row.mk (mC g2.2.8) false (Ob.map true)) (bs g2.4)) false
  (Ob.cells true)) (Row.mk (dtMc g2.2.1 g2.2.2 g2.2.6 g2.2.7 g2.2.5 (Row.mk (gC ndC g2.2.3) false (Ob.cells true)) (Row.mk (iCells IntKind.i64 g2.2.4) false (Ob.cells true))
  (Row.mk (mC g2.2.8) false (Ob.map true)) (bs g2.4)) false (Ob.map true))) /\ Plain (List.take (kyN g2.2.1 (dtSiz g2.2.1 g2.2.2 g2.2.6 g2.2.7 g2.2.5 (Row.mk (gC ndC g2.2.3)
  false (Ob.cells true)) (Row.mk (iCells IntKind.i64 g2.2.4) false (Ob.cells true)) (Row.mk (mC g2.2.8) false (Ob.map true)) (bs g2.4)) (dtNw g2.2.1 g2.2.2 g2.2.6 g2.2.7
  g2.2.5 (Row.mk (gC ndC g2.2.3) false (Ob.cells true)) (Row.mk (iCells IntKind.i64 g2.2.4) false (Ob.cells true)) (Row.mk (mC g2.2.8) false (Ob.map true)) (bs g2.4)) (dtOl
  g2.2.1 g2.2.2 g2.2.6 g2.2.7 g2.2.5 (Row.mk (gC ndC g2.2.3) false (Ob.cells true)) (Row.mk (iCells IntKind.i64 g2.2.4) false (Ob.cells true)) (Row.mk (mC g2.2.8) false
  (Ob.map true)) (bs g2.4)) (dtFn g2.2.1 g2.2.2 g2.2.6 g2.2.7 g2.2.5 (Row.mk (gC ndC g2.2.3) false (Ob.cells true)) (Row.mk (iCells IntKind.i64 g2.2.4) false (Ob.cells
  true)) (Row.mk (mC g2.2.8) false (Ob.map true)) (bs g2.4)) (Row.mk (dtNd g2.2.1 g2.2.2 g2.2.6 g2.2.7 g2.2.5 (Row.mk (gC ndC g2.2.3) false (Ob.cells true)) (Row.mk (iCells
  IntKind.i64 g2.2.4) false (Ob.cells true)) (Row.mk (mC g2.2.8) false (Ob.map true)) (bs g2.4)) false (Ob.cells true)) (Row.mk (dtFr g2.2.1 g2.2.2 g2.2.6 g2.2.7 g2.2.5
  (Row.mk (gC ndC g2.2.3) false (Ob.cells true)) (Row.mk (iCells IntKind.i64 g2.2.4) false (Ob.cells true)) (Row.mk (mC g2.2.8) false (Ob.map true)) (bs g2.4)) false
  (Ob.cells true)) (Row.mk (dtMc g2.2.1 g2.2.2 g2.2.6 g2.2.7 g2.2.5 (Row.mk (gC ndC g2.2.3) false (Ob.cells true)) (Row.mk (iCells IntKind.i64 g2.2.4) false (Ob.cells true))
  (Row.mk (mC g2.2.8) false (Ob.map true)) (bs g2.4)) false (Ob.map true)) * 1) (List.drop 0 (kyC g2.2.1 (dtSiz g2.2.1 g2.2.2 g2.2.6 g2.2.7 g2.2.5 (Row.mk (gC ndC g2.2.3)
  false (Ob.cells true)) (Row.mk (iCells IntKind.i64 g2.2.4) false (Ob.cells true)) (Row.mk (mC g2.2.8) false (Ob.map true)) (bs g2.4)) (dtNw g2.2.1 g2.2.2 g2.2.6 g2.2.7
  g2.2.5 (Row.mk (gC ndC g2.2.3) false (Ob.cells true)) (Row.mk (iCells IntKind.i64 g2.2.4) false (Ob.cells true)) (Row.mk (mC g2.2.8) false (Ob.map true)) (bs g2.4)) (dtOl
  g2.2.1 g2.2.2 g2.2.6 g2.2.7 g2.2.5 (Row.mk (gC ndC g2.2.3) false (Ob.cells true)) (Row.mk (iCells IntKind.i64 g2.2.4) false (Ob.cells true)) (Row.mk (mC g2.2.8) false
  (Ob.map true)) (bs g2.4)) (dtFn g2.2.1 g2.2.2 g2.2.6 g2.2.7 g2.2.5 (Row.mk (gC ndC g2.2.3) false (Ob.cells true)) (Row.mk (iCells IntKind.i64 g2.2.4) false (Ob.cells
  true)) (Row.mk (mC g2.2.8) false (Ob.map true)) (bs g2.4)) (Row.mk (dtNd g2.2.1 g2.2.2 g2.2.6 g2.2.7 g2.2.5 (Row.mk (gC ndC g2.2.3) false (Ob.cells true)) (Row.mk (iCells
  IntKind.i64 g2.2.4) false (Ob.cells true)) (Row.mk (mC g2.2.8) false (Ob.map true)) (bs g2.4)) false (Ob.cells true)) (Row.mk (dtFr g2.2.1 g2.2.2 g2.2.6 g2.2.7 g2.2.5
  (Row.mk (gC ndC g2.2.3) false (Ob.cells true)) (Row.mk (iCells IntKind.i64 g2.2.4) false (Ob.cells true)) (Row.mk (mC g2.2.8) false (Ob.map true)) (bs g2.4)) false
  (Ob.cells true)) (Row.mk (dtMc g2.2.1 g2.2.2 g2.2.6 g2.2.7 g2.2.5 (Row.mk (gC ndC g2.2.3) false (Ob.cells true)) (Row.mk (iCells IntKind.i64 g2.2.4) false (Ob.cells true))
  (Row.mk (mC g2.2.8) false (Ob.map true)) (bs g2.4)) false (Ob.map true)))))) /\ ((0 + List.length (fl g2.4 g2.3) * 1 <= List.length (gC enS (fl g2.4 g2.3)) /\ Plain
  (List.take (List.length (fl g2.4 g2.3) * 1) (List.drop 0 (gC enS (fl g2.4 g2.3))))) /\ True)) /\ ((True /\ (True /\ True)) /\ (True /\ (IsS (Row.mk (List.take (kyN g2.2.1
  (dtSiz g2.2.1 g2.2.2 g2.2.6 g2.2.7 g2.2.5 (Row.mk (gC ndC g2.2.3) false (Ob.cells true)) (Row.mk (iCells IntKind.i64 g2.2.4) false (Ob.cells true)) (Row.mk (mC g2.2.8)
  false (Ob.map true)) (bs g2.4)) (dtNw g2.2.1 g2.2.2 g2.2.6 g2.2.7 g2.2.5 (Row.mk (gC ndC g2.2.3) false (Ob.cells true)) (Row.mk (iCells IntKind.i64 g2.2.4) false (Ob.cells
  true)) (Row.mk (mC g2.2.8) false (Ob.map true)) (bs g2.4)) (dtOl g2.2.1 g2.2.2 g2.2.6 g2.2.7 g2.2.5 (Row.mk (gC ndC g2.2.3) false (Ob.cells true)) (Row.mk (iCells
  IntKind.i64 g2.2.4) false (Ob.cells true)) (Row.mk (mC g2.2.8) false (Ob.map true)) (bs g2.4)) (dtFn g2.2.1 g2.2.2 g2.2.6 g2.2.7 g2.2.5 (Row.mk (gC ndC g2.2.3) false
  (Ob.cells true)) (Row.mk (iCells IntKind.i64 g2.2.4) false (Ob.cells true)) (Row.mk (mC g2.2.8) false (Ob.map true)) (bs g2.4)) (Row.mk (dtNd g2.2.1 g2.2.2 g2.2.6 g2.2.7
  g2.2.5 (Row.mk (gC ndC g2.2.3) false (Ob.cells true)) (Row.mk (iCells IntKind.i64 g2.2.4) false (Ob.cells true)) (Row.mk (mC g2.2.8) false (Ob.map true)) (bs g2.4)) false
  (Ob.cells true)) (Row.mk (dtFr g2.2.1 g2.2.2 g2.2.6 g2.2.7 g2.2.5 (Row.mk (gC ndC g2.2.3) false (Ob.cells true)) (Row.mk (iCells IntKind.i64 g2.2.4) false (Ob.cells true))
  (Row.mk (mC g2.2.8) false (Ob.map true)) (bs g2.4)) false (Ob.cells true)) (Row.mk (dtMc g2.2.1 g2.2.2 g2.2.6 g2.2.7 g2.2.5 (Row.mk (gC ndC g2.2.3) false (Ob.cells true))
  (Row.mk (iCells IntKind.i64 g2.2.4) false (Ob.cells true)) (Row.mk (mC g2.2.8) false (Ob.map true)) (bs g2.4)) false (Ob.map true)) * 1) (List.drop 0 (kyC g2.2.1 (dtSiz
  g2.2.1 g2.2.2 g2.2.6 g2.2.7 g2.2.5 (Row.mk (gC ndC g2.2.3) false (Ob.cells true)) (Row.mk (iCells IntKind.i64 g2.2.4) false (Ob.cells true)) (Row.mk (mC g2.2.8) false
  (Ob.map true)) (bs g2.4)) (dtNw g2.2.1 g2.2.2 g2.2.6 g2.2.7 g2.2.5 (Row.mk (gC ndC g2.2.3) false (Ob.cells true)) (Row.mk (iCells IntKind.i64 g2.2.4) false (Ob.cells
  true)) (Row.mk (mC g2.2.8) false (Ob.map true)) (bs g2.4)) (dtOl g2.2.1 g2.2.2 g2.2.6 g2.2.7 g2.2.5 (Row.mk (gC ndC g2.2.3) false (Ob.cells true)) (Row.mk (iCells
  IntKind.i64 g2.2.4) false (Ob.cells true)) (Row.mk (mC g2.2.8) false (Ob.map true)) (bs g2.4)) (dtFn g2.2.1 g2.2.2 g2.2.6 g2.2.7 g2.2.5 (Row.mk (gC ndC g2.2.3) false
  (Ob.cells true)) (Row.mk (iCells IntKind.i64 g2.2.4) false (Ob.cells true)) (Row.mk (mC g2.2.8) false (Ob.map true)) (bs g2.4)) (Row.mk (dtNd g2.2.1 g2.2.2 g2.2.6 g2.2.7
  g2.2.5 (Row.mk (gC ndC g2.2.3) false (Ob.cells true)) (Row.mk (iCells IntKind.i64 g2.2.4) false (Ob.cells true)) (Row.mk (mC g2.2.8) false (Ob.map true)) (bs g2.4)) false
  (Ob.cells true)) (Row.mk (dtFr g2.2.1 g2.2.2 g2.2.6 g2.2.7 g2.2.5 (Row.mk (gC ndC g2.2.3) false (Ob.cells true)) (Row.mk (iCells IntKind.i64 g2.2.4) false (Ob.cells true))
  (Row.mk (mC g2.2.8) false (Ob.map true)) (bs g2.4)) false (Ob.cells true)) (Row.mk (dtMc g2.2.1 g2.2.2 g2.2.6 g2.2.7 g2.2.5 (Row.mk (gC ndC g2.2.3) false (Ob.cells true))
  (Row.mk (iCells IntKind.i64 g2.2.4) false (Ob.cells true)) (Row.mk (mC g2.2.8) false (Ob.map true)) (bs g2.4)) false (Ob.map true))))) true (Ob.cells true)) (kyN g2.2.1
  (dtSiz g2.2.1 g2.2.2 g2.2.6 g2.2.7 g2.2.5 (Row.mk (gC ndC g2.2.3) false (Ob.cells true)) (Row.mk (iCells IntKind.i64 g2.2.4) false (Ob.cells true)) (Row.mk (mC g2.2.8)
  false (Ob.map true)) (bs g2.4)) (dtNw g2.2.1 g2.2.2 g2.2.6 g2.2.7 g2.2.5 (Row.mk (gC ndC g2.2.3) false (Ob.cells true)) (Row.mk (iCells IntKind.i64 g2.2.4) false (Ob.cells
  true)) (Row.mk (mC g2.2.8) false (Ob.map true)) (bs g2.4)) (dtOl g2.2.1 g2.2.2 g2.2.6 g2.2.7 g2.2.5 (Row.mk (gC ndC g2.2.3) false (Ob.cells true)) (Row.mk (iCells
  IntKind.i64 g2.2.4) false (Ob.cells true)) (Row.mk (mC g2.2.8) false (Ob.map true)) (bs g2.4)) (dtFn g2.2.1 g2.2.2 g2.2.6 g2.2.7 g2.2.5 (Row.mk (gC ndC g2.2.3) false
  (Ob.cells true)) (Row.mk (iCells IntKind.i64 g2.2.4) false (Ob.cells true)) (Row.mk (mC g2.2.8) false (Ob.map true)) (bs g2.4)) (Row.mk (dtNd g2.2.1 g2.2.2 g2.2.6 g2.2.7
  g2.2.5 (Row.mk (gC ndC g2.2.3) false (Ob.cells true)) (Row.mk (iCells IntKind.i64 g2.2.4) false (Ob.cells true)) (Row.mk (mC g2.2.8) false (Ob.map true)) (bs g2.4)) false
  (Ob.cells true)) (Row.mk (dtFr g2.2.1 g2.2.2 g2.2.6 g2.2.7 g2.2.5 (Row.mk (gC ndC g2.2.3) false (Ob.cells true)) (Row.mk (iCells IntKind.i64 g2.2.4) false (Ob.cells true))
  (Row.mk (mC g2.2.8) false (Ob.map true)) (bs g2.4)) false (Ob.cells true)) (Row.mk (dtMc g2.2.1 g2.2.2 g2.2.6 g2.2.7 g2.2.5 (Row.mk (gC ndC g2.2.3) false (Ob.cells true))
  (Row.mk (iCells IntKind.i64 g2.2.4) false (Ob.cells true)) (Row.mk (mC g2.2.8) false (Ob.map true)) (bs g2.4)) false (Ob.map true))) /\ (IsS (Row.mk (List.take
  (List.length (fl g2.4 g2.3) * 1) (List.drop 0 (gC enS (fl g2.4 g2.3)))) true (Ob.cells true)) (List.length (fl g2.4 g2.3)) /\ kyN g2.2.1 (dtSiz g2.2.1 g2.2.2 g2.2.6 g2.2.7
  g2.2.5 (Row.mk (gC ndC g2.2.3) false (Ob.cells true)) (Row.mk (iCells IntKind.i64 g2.2.4) false (Ob.cells true)) (Row.mk (mC g2.2.8) false (Ob.map true)) (bs g2.4)) (dtNw
  g2.2.1 g2.2.2 g2.2.6 g2.2.7 g2.2.5 (Row.mk (gC ndC g2.2.3) false (Ob.cells true)) (Row.mk (iCells IntKind.i64 g2.2.4) false (Ob.cells true)) (Row.mk (mC g2.2.8) false
  (Ob.map true)) (bs g2.4)) (dtOl g2.2.1 g2.2.2 g2.2.6 g2.2.7 g2.2.5 (Row.mk (gC ndC g2.2.3) false (Ob.cells true)) (Row.mk (iCells IntKind.i64 g2.2.4) false (Ob.cells
  true)) (Row.mk (mC g2.2.8) false (Ob.map true)) (bs g2.4)) (dtFn g2.2.1 g2.2.2 g2.2.6 g2.2.7 g2.2.5 (Row.mk (gC ndC g2.2.3) false (Ob.cells true)) (Row.mk (iCells
  IntKind.i64 g2.2.4) false (Ob.cells true)) (Row.mk (mC g2.2.8) false (Ob.map true)) (bs g2.4)) (Row.mk (dtNd g2.2.1 g2.2.2 g2.2.6 g2.2.7 g2.2.5 (Row.mk (gC ndC g2.2.3)
  false (Ob.cells true)) (Row.mk (iCells IntKind.i64 g2.2.4) false (Ob.cells true)) (Row.mk (mC g2.2.8) false (Ob.map true)) (bs g2.4)) false (Ob.cells true)) (Row.mk (dtFr
  g2.2.1 g2.2.2 g2.2.6 g2.2.7 g2.2.5 (Row.mk (gC ndC g2.2.3) false (Ob.cells true)) (Row.mk (iCells IntKind.i64 g2.2.4) false (Ob.cells true)) (Row.mk (mC g2.2.8) false
  (Ob.map true)) (bs g2.4)) false (Ob.cells true)) (Row.mk (dtMc g2.2.1 g2.2.2 g2.2.6 g2.2.7 g2.2.5 (Row.mk (gC ndC g2.2.3) false (Ob.cells true)) (Row.mk (iCells
  IntKind.i64 g2.2.4) false (Ob.cells true)) (Row.mk (mC g2.2.8) false (Ob.map true)) (bs g2.4)) false (Ob.map true)) <= 9223372036854775807)))))) /\ (br (sb.sameR (Row.mk
  (List.take (kyN g2.2.1 (dtSiz g2.2.1 g2.2.2 g2.2.6 g2.2.7 g2.2.5 (Row.mk (gC ndC g2.2.3) false (Ob.cells true)) (Row.mk (iCells IntKind.i64 g2.2.4) false (Ob.cells true))
  (Row.mk (mC g2.2.8) false (Ob.map true)) (bs g2.4)) (dtNw g2.2.1 g2.2.2 g2.2.6 g2.2.7 g2.2.5 (Row.mk (gC ndC g2.2.3) false (Ob.cells true)) (Row.mk (iCells IntKind.i64
  g2.2.4) false (Ob.cells true)) (Row.mk (mC g2.2.8) false (Ob.map true)) (bs g2.4)) (dtOl g2.2.1 g2.2.2 g2.2.6 g2.2.7 g2.2.5 (Row.mk (gC ndC g2.2.3) false (Ob.cells true))
  (Row.mk (iCells IntKind.i64 g2.2.4) false (Ob.cells true)) (Row.mk (mC g2.2.8) false (Ob.map true)) (bs g2.4)) (dtFn g2.2.1 g2.2.2 g2.2.6 g2.2.7 g2.2.5 (Row.mk (gC ndC
  g2.2.3) false (Ob.cells true)) (Row.mk (iCells IntKind.i64 g2.2.4) false (Ob.cells true)) (Row.mk (mC g2.2.8) false (Ob.map true)) (bs g2.4)) (Row.mk (dtNd g2.2.1 g2.2.2
  g2.2.6 g2.2.7 g2.2.5 (Row.mk (gC ndC g2.2.3) false (Ob.cells true)) (Row.mk (iCells IntKind.i64 g2.2.4) false (Ob.cells true)) (Row.mk (mC g2.2.8) false (Ob.map true)) (bs
  g2.4)) false (Ob.cells true)) (Row.mk (dtFr g2.2.1 g2.2.2 g2.2.6 g2.2.7 g2.2.5 (Row.mk (gC ndC g2.2.3) false (Ob.cells true)) (Row.mk (iCells IntKind.i64 g2.2.4) false
  (Ob.cells true)) (Row.mk (mC g2.2.8) false (Ob.map true)) (bs g2.4)) false (Ob.cells true)) (Row.mk (dtMc g2.2.1 g2.2.2 g2.2.6 g2.2.7 g2.2.5 (Row.mk (gC ndC g2.2.3) false
  (Ob.cells true)) (Row.mk (iCells IntKind.i64 g2.2.4) false (Ob.cells true)) (Row.mk (mC g2.2.8) false (Ob.map true)) (bs g2.4)) false (Ob.map true)) * 1) (List.drop 0 (kyC
  g2.2.1 (dtSiz g2.2.1 g2.2.2 g2.2.6 g2.2.7 g2.2.5 (Row.mk (gC ndC g2.2.3) false (Ob.cells true)) (Row.mk (iCells IntKind.i64 g2.2.4) false (Ob.cells true)) (Row.mk (mC
  g2.2.8) false (Ob.map true)) (bs g2.4)) (dtNw g2.2.1 g2.2.2 g2.2.6 g2.2.7 g2.2.5 (Row.mk (gC ndC g2.2.3) false (Ob.cells true)) (Row.mk (iCells IntKind.i64 g2.2.4) false
  (Ob.cells true)) (Row.mk (mC g2.2.8) false (Ob.map true)) (bs g2.4)) (dtOl g2.2.1 g2.2.2 g2.2.6 g2.2.7 g2.2.5 (Row.mk (gC ndC g2.2.3) false (Ob.cells true)) (Row.mk
  (iCells IntKind.i64 g2.2.4) false (Ob.cells true)) (Row.mk (mC g2.2.8) false (Ob.map true)) (bs g2.4)) (dtFn g2.2.1 g2.2.2 g2.2.6 g2.2.7 g2.2.5 (Row.mk (gC ndC g2.2.3)
  false (Ob.cells true)) (Row.mk (iCells IntKind.i64 g2.2.4) false (Ob.cells true)) (Row.mk (mC g2.2.8) false (Ob.map true)) (bs g2.4)) (Row.mk (dtNd g2.2.1 g2.2.2 g2.2.6
  g2.2.7 g2.2.5 (Row.mk (gC ndC g2.2.3) false (Ob.cells true)) (Row.mk (iCells IntKind.i64 g2.2.4) false (Ob.cells true)) (Row.mk (mC g2.2.8) false (Ob.map true)) (bs g2.4))
  false (Ob.cells true)) (Row.mk (dtFr g2.2.1 g2.2.2 g2.2.6 g2.2.7 g2.2.5 (Row.mk (gC ndC g2.2.3) false (Ob.cells true)) (Row.mk (iCells IntKind.i64 g2.2.4) false (Ob.cells
  true)) (Row.mk (mC g2.2.8) false (Ob.map true)) (bs g2.4)) false (Ob.cells true)) (Row.mk (dtMc g2.2.1 g2.2.2 g2.2.6 g2.2.7 g2.2.5 (Row.mk (gC ndC g2.2.3) false (Ob.cells
  true)) (Row.mk (iCells IntKind.i64 g2.2.4) false (Ob.cells true)) (Row.mk (mC g2.2.8) false (Ob.map true)) (bs g2.4)) false (Ob.map true))))) true (Ob.cells true)) (Row.mk
  (List.take (List.length (fl g2.4 g2.3) * 1) (List.drop 0 (gC enS (fl g2.4 g2.3)))) true (Ob.cells true))) ((((True /\ (True /\ True)) /\ (((True /\ z1) /\ (Plain (dtNd
  g2.2.1 g2.2.2 g2.2.6 g2.2.7 g2.2.5 (Row.mk (gC ndC g2.2.3) false (Ob.cells true)) (Row.mk (iCells IntKind.i64 g2.2.4) false (Ob.cells true)) (Row.mk (mC g2.2.8) false
  (Ob.map true)) (bs g2.4)) /\ (Plain (dtFr g2.2.1 g2.2.2 g2.2.6 g2.2.7 g2.2.5 (Row.mk (gC ndC g2.2.3) false (Ob.cells true)) (Row.mk (iCells IntKind.i64 g2.2.4) false
  (Ob.cells true)) (Row.mk (mC g2.2.8) false (Ob.map true)) (bs g2.4)) /\ (Plain (dtMc g2.2.1 g2.2.2 g2.2.6 g2.2.7 g2.2.5 (Row.mk (gC ndC g2.2.3) false (Ob.cells true))
  (Row.mk (iCells IntKind.i64 g2.2.4) false (Ob.cells true)) (Row.mk (mC g2.2.8) false (Ob.map true)) (bs g2.4)) /\ True)))) /\ ((Plain (dtNd g2.2.1 (dtSiz g2.2.1 g2.2.2
  g2.2.6 g2.2.7 g2.2.5 (Row.mk (gC ndC g2.2.3) false (Ob.cells true)) (Row.mk (iCells IntKind.i64 g2.2.4) false (Ob.cells true)) (Row.mk (mC g2.2.8) false (Ob.map true)) (bs
  g2.4)) (dtNw g2.2.1 g2.2.2 g2.2.6 g2.2.7 g2.2.5 (Row.mk (gC ndC g2.2.3) false (Ob.cells true)) (Row.mk (iCells IntKind.i64 g2.2.4) false (Ob.cells true)) (Row.mk (mC
  g2.2.8) false (Ob.map true)) (bs g2.4)) (dtOl g2.2.1 g2.2.2 g2.2.6 g2.2.7 g2.2.5 (Row.mk (gC ndC g2.2.3) false (Ob.cells true)) (Row.mk (iCells IntKind.i64 g2.2.4) false
  (Ob.cells true)) (Row.mk (mC g2.2.8) false (Ob.map true)) (bs g2.4)) (dtFn g2.2.1 g2.2.2 g2.2.6 g2.2.7 g2.2.5 (Row.mk (gC ndC g2.2.3) false (Ob.cells true)) (Row.mk
  (iCells IntKind.i64 g2.2.4) false (Ob.cells true)) (Row.mk (mC g2.2.8) false (Ob.map true)) (bs g2.4)) (Row.mk (dtNd g2.2.1 g2.2.2 g2.2.6 g2.2.7 g2.2.5 (Row.mk (gC ndC
  g2.2.3) false (Ob.cells true)) (Row.mk (iCells IntKind.i64 g2.2.4) false (Ob.cells true)) (Row.mk (mC g2.2.8) false (Ob.map true)) (bs g2.4)) false (Ob.cells true))
  (Row.mk (dtFr g2.2.1 g2.2.2 g2.2.6 g2.2.7 g2.2.5 (Row.mk (gC ndC g2.2.3) false (Ob.cells true)) (Row.mk (iCells IntKind.i64 g2.2.4) false (Ob.cells true)) (Row.mk (mC
  g2.2.8) false (Ob.map true)) (bs g2.4)) false (Ob.cells true)) (Row.mk (dtMc g2.2.1 g2.2.2 g2.2.6 g2.2.7 g2.2.5 (Row.mk (gC ndC g2.2.3) false (Ob.cells true)) (Row.mk
  (iCells IntKind.i64 g2.2.4) false (Ob.cells true)) (Row.mk (mC g2.2.8) false (Ob.map true)) (bs g2.4)) false (Ob.map true)) (bs g2.4)) /\ (Plain (dtFr g2.2.1 (dtSiz g2.2.1
  g2.2.2 g2.2.6 g2.2.7 g2.2.5 (Row.mk (gC ndC g2.2.3) false (Ob.cells true)) (Row.mk (iCells IntKind.i64 g2.2.4) false (Ob.cells true)) (Row.mk (mC g2.2.8) false (Ob.map
  true)) (bs g2.4)) (dtNw g2.2.1 g2.2.2 g2.2.6 g2.2.7 g2.2.5 (Row.mk (gC ndC g2.2.3) false (Ob.cells true)) (Row.mk (iCells IntKind.i64 g2.2.4) false (Ob.cells true))
  (Row.mk (mC g2.2.8) false (Ob.map true)) (bs g2.4)) (dtOl g2.2.1 g2.2.2 g2.2.6 g2.2.7 g2.2.5 (Row.mk (gC ndC g2.2.3) false (Ob.cells true)) (Row.mk (iCells IntKind.i64
  g2.2.4) false (Ob.cells true)) (Row.mk (mC g2.2.8) false (Ob.map true)) (bs g2.4)) (dtFn g2.2.1 g2.2.2 g2.2.6 g2.2.7 g2.2.5 (Row.mk (gC ndC g2.2.3) false (Ob.cells true))
  (Row.mk (iCells IntKind.i64 g2.2.4) false (Ob.cells true)) (Row.mk (mC g2.2.8) false (Ob.map true)) (bs g2.4)) (Row.mk (dtNd g2.2.1 g2.2.2 g2.2.6 g2.2.7 g2.2.5 (Row.mk (gC
  ndC g2.2.3) false (Ob.cells true)) (Row.mk (iCells IntKind.i64 g2.2.4) false (Ob.cells true)) (Row.mk (mC g2.2.8) false (Ob.map true)) (bs g2.4)) false (Ob.cells true))
  (Row.mk (dtFr g2.2.1 g2.2.2 g2.2.6 g2.2.7 g2.2.5 (Row.mk (gC ndC g2.2.3) false (Ob.cells true)) (Row.mk (iCells IntKind.i64 g2.2.4) false (Ob.cells true)) (Row.mk (mC
  g2.2.8) false (Ob.map true)) (bs g2.4)) false (Ob.cells true)) (Row.mk (dtMc g2.2.1 g2.2.2 g2.2.6 g2.2.7 g2.2.5 (Row.mk (gC ndC g2.2.3) false (Ob.cells true)) (Row.mk
  (iCells IntKind.i64 g2.2.4) false (Ob.cells true)) (Row.mk (mC g2.2.8) false (Ob.map true)) (bs g2.4)) false (Ob.map true)) (bs g2.4)) /\ (Plain (dtMc g2.2.1 (dtSiz g2.2.1
  g2.2.2 g2.2.6 g2.2.7 g2.2.5 (Row.mk (gC ndC g2.2.3) false (Ob.cells true)) (Row.mk (iCells IntKind.i64 g2.2.4) false (Ob.cells true)) (Row.mk (mC g2.2.8) false (Ob.map
  true)) (bs g2.4)) (dtNw g2.2.1 g2.2.2 g2.2.6 g2.2.7 g2.2.5 (Row.mk (gC ndC g2.2.3) false (Ob.cells true)) (Row.mk (iCells IntKind.i64 g2.2.4) false (Ob.cells true))
  (Row.mk (mC g2.2.8) false (Ob.map true)) (bs g2.4)) (dtOl g2.2.1 g2.2.2 g2.2.6 g2.2.7 g2.2.5 (Row.mk (gC ndC g2.2.3) false (Ob.cells true)) (Row.mk (iCells IntKind.i64
  g2.2.4) false (Ob.cells true)) (Row.mk (mC g2.2.8) false (Ob.map true)) (bs g2.4)) (dtFn g2.2.1 g2.2.2 g2.2.6 g2.2.7 g2.2.5 (Row.mk (gC ndC g2.2.3) false (Ob.cells true))
  (Row.mk (iCells IntKind.i64 g2.2.4) false (Ob.cells true)) (Row.mk (mC g2.2.8) false (Ob.map true)) (bs g2.4)) (Row.mk (dtNd g2.2.1 g2.2.2 g2.2.6 g2.2.7 g2.2.5 (Row.mk (gC
  ndC g2.2.3) false (Ob.cells true)) (Row.mk (iCells IntKind.i64 g2.2.4) false (Ob.cells true)) (Row.mk (mC g2.2.8) false (Ob.map true)) (bs g2.4)) false (Ob.cells true))
  (Row.mk (dtFr g2.2.1 g2.2.2 g2.2.6 g2.2.7 g2.2.5 (Row.mk (gC ndC g2.2.3) false (Ob.cells true)) (Row.mk (iCells IntKind.i64 g2.2.4) false (Ob.cells true)) (Row.mk (mC
  g2.2.8) false (Ob.map true)) (bs g2.4)) false (Ob.cells true)) (Row.mk (dtMc g2.2.1 g2.2.2 g2.2.6 g2.2.7 g2.2.5 (Row.mk (gC ndC g2.2.3) false (Ob.cells true)) (Row.mk
  (iCells IntKind.i64 g2.2.4) false (Ob.cells true)) (Row.mk (mC g2.2.8) false (Ob.map true)) (bs g2.4)) false (Ob.map true)) (bs g2.4)) /\ True))) /\ PDr g2.2.1 (dtSiz
  g2.2.1 g2.2.2 g2.2.6 g2.2.7 g2.2.5 (Row.mk (gC ndC g2.2.3) false (Ob.cells true)) (Row.mk (iCells IntKind.i64 g2.2.4) false (Ob.cells true)) (Row.mk (mC g2.2.8) false
  (Ob.map true)) (bs g2.4)) (dtNw g2.2.1 g2.2.2 g2.2.6 g2.2.7 g2.2.5 (Row.mk (gC ndC g2.2.3) false (Ob.cells true)) (Row.mk (iCells IntKind.i64 g2.2.4) false (Ob.cells
  true)) (Row.mk (mC g2.2.8) false (Ob.map true)) (bs g2.4)) (dtOl g2.2.1 g2.2.2 g2.2.6 g2.2.7 g2.2.5 (Row.mk (gC ndC g2.2.3) false (Ob.cells true)) (Row.mk (iCells
  IntKind.i64 g2.2.4) false (Ob.cells true)) (Row.mk (mC g2.2.8) false (Ob.map true)) (bs g2.4)) (dtFn g2.2.1 g2.2.2 g2.2.6 g2.2.7 g2.2.5 (Row.mk (gC ndC g2.2.3) false
  (Ob.cells true)) (Row.mk (iCells IntKind.i64 g2.2.4) false (Ob.cells true)) (Row.mk (mC g2.2.8) false (Ob.map true)) (bs g2.4)) (List.length g2.2.3) (Row.mk (dtNd g2.2.1
  g2.2.2 g2.2.6 g2.2.7 g2.2.5 (Row.mk (gC ndC g2.2.3) false (Ob.cells true)) (Row.mk (iCells IntKind.i64 g2.2.4) false (Ob.cells true)) (Row.mk (mC g2.2.8) false (Ob.map
  true)) (bs g2.4)) false (Ob.cells true)) (Row.mk (dtFr g2.2.1 g2.2.2 g2.2.6 g2.2.7 g2.2.5 (Row.mk (gC ndC g2.2.3) false (Ob.cells true)) (Row.mk (iCells IntKind.i64
  g2.2.4) false (Ob.cells true)) (Row.mk (mC g2.2.8) false (Ob.map true)) (bs g2.4)) false (Ob.cells true)) (Row.mk (dtMc g2.2.1 g2.2.2 g2.2.6 g2.2.7 g2.2.5 (Row.mk (gC ndC
  g2.2.3) false (Ob.cells true)) (Row.mk (iCells IntKind.i64 g2.2.4) false (Ob.cells true)) (Row.mk (mC g2.2.8) false (Ob.map true)) (bs g2.4)) false (Ob.map true)))))) /\
  (br (rvV g2.2.1 (dtSiz g2.2.1 g2.2.2 g2.2.6 g2.2.7 g2.2.5 (Row.mk (gC ndC g2.2.3) false (Ob.cells true)) (Row.mk (iCells IntKind.i64 g2.2.4) false (Ob.cells true)) (Row.mk
  (mC g2.2.8) false (Ob.map true)) (bs g2.4)) (dtNw g2.2.1 g2.2.2 g2.2.6 g2.2.7 g2.2.5 (Row.mk (gC ndC g2.2.3) false (Ob.cells true)) (Row.mk (iCells IntKind.i64 g2.2.4)
  false (Ob.cells true)) (Row.mk (mC g2.2.8) false (Ob.map true)) (bs g2.4)) (dtOl g2.2.1 g2.2.2 g2.2.6 g2.2.7 g2.2.5 (Row.mk (gC ndC g2.2.3) false (Ob.cells true)) (Row.mk
  (iCells IntKind.i64 g2.2.4) false (Ob.cells true)) (Row.mk (mC g2.2.8) false (Ob.map true)) (bs g2.4)) (dtFn g2.2.1 g2.2.2 g2.2.6 g2.2.7 g2.2.5 (Row.mk (gC ndC g2.2.3)
  false (Ob.cells true)) (Row.mk (iCells IntKind.i64 g2.2.4) false (Ob.cells true)) (Row.mk (mC g2.2.8) false (Ob.map true)) (bs g2.4)) (Row.mk (dtNd g2.2.1 g2.2.2 g2.2.6
  g2.2.7 g2.2.5 (Row.mk (gC ndC g2.2.3) false (Ob.cells true)) (Row.mk (iCells IntKind.i64 g2.2.4) false (Ob.cells true)) (Row.mk (mC g2.2.8) false (Ob.map true)) (bs g2.4))
  false (Ob.cells true)) (Row.mk (dtFr g2.2.1 g2.2.2 g2.2.6 g2.2.7 g2.2.5 (Row.mk (gC ndC g2.2.3) false (Ob.cells true)) (Row.mk (iCells IntKind.i64 g2.2.4) false (Ob.cells
  true)) (Row.mk (mC g2.2.8) false (Ob.map true)) (bs g2.4)) false (Ob.cells true)) (Row.mk (dtMc g2.2.1 g2.2.2 g2.2.6 g2.2.7 g2.2.5 (Row.mk (gC ndC g2.2.3) false (Ob.cells
  true)) (Row.mk (iCells IntKind.i64 g2.2.4) false (Ob.cells true)) (Row.mk (mC g2.2.8) false (Ob.map true)) (bs g2.4)) false (Ob.map true)) (List.length g2.2.3) (bs g2.4)
  == (0 : Int)) (((True /\ (True /\ (True /\ True)))) /\ ((true = true) /\ ((Eq (α := List Value) (iCells IntKind.i64 l) (iCells IntKind.i64 g2.1)) /\ ((Plain (iCells
  IntKind.i64 l)) /\ True)))) ((true = false) /\ ((Eq (α := List Value) (iCells IntKind.i64 l) (iCells IntKind.i64 g2.1)) /\ ((Plain (iCells IntKind.i64 l)) /\ True)))))
  ((true = false) /\ ((Eq (α := List Value) (iCells IntKind.i64 l) (iCells IntKind.i64 g2.1)) /\ ((Plain (iCells IntKind.i64 l)) /\ True)))))) ((true = false) /\ ((Eq (α :=
  List Value) (iCells IntKind.i64 l) (iCells IntKind.i64 g2.1)) /\ ((Plain (iCells IntKind.i64 l)) /\ True)))) ((true = false) /\ ((Eq (α := List Value) (iCells IntKind.i64
  l) (iCells IntKind.i64 g2.1)) /\ ((Plain (iCells IntKind.i64 l)) /\ True))))))))))))))))))))))))))))))))))))))))))))))))))))))))))))) := by kernel_rfl
theorem tRl_ok : ∀ x ∈ tRl, EntOk Try.prog x := all_cons ePt_ok (all_cons eKs_ok (all_cons eRv_ok (all_cons eSmO_ok (all_cons eWiO_ok (all_cons eRunsO_ok (all_cons eKy_ok all_nil))))))
theorem Rk_piece : PieceOk ERl 1 (7, pRk, specRk) := by
  refine piece_loop mixed (calls_envT tRl_ok) (lok_envT _ _) lm_none (n := 200) (by kernel_rfl) (fun _ : GRk => (0 : Nat)) (fun g i => i ≤ g.k.length) (fun g i => g.k.length - i) (sl := slRk) (rl := rlRk) (fun g hg => Nat.zero_le _) (fun g i hg hi => ?_)
  refine (Rk_round g i _ _).mpr ?_
  simp only [ofNat_eq, toNat_cast, Nat.zero_add, Nat.add_zero, Nat.mul_one, List.drop_zero, bCells_len, bCells_drop, bCells_take, bCells_app, bCells_one, bCells_plain, List.length_replicate, List.length_append, List.length_take, List.length_drop, List.take_length, and_true, true_and, and_self, decide_true, List.length_nil, List.length_cons, Nat.sub_zero, dB_mk, dB_ro, List.take_zero, nPl, mC_plain, iCells_plain, sPl, sLen]
  refine br_if (fun q => ?_) (fun q => ?_)
  · have hlt : i < g.k.length := by omega
    obtain ⟨c1, c2⟩ := sGet g.k i hlt
    have hfl := fl_le g.K (g.k.take i)
    have htl : (g.k.take i).length ≤ g.k.length := List.length_take_le' _ _
    have hcl : cnK g.K (g.k.take i) ≤ (g.k.take i).length := List.countP_le_length
    rw [c2, strEq_bs]
    have ht : g.k.take (i + 1) = g.k.take i ++ [g.k[i]] := List.take_succ_eq_append_getElem hlt
    have hf : fl g.K (g.k.take (i + 1)) = fl g.K (g.k.take i) ++ if g.k[i] = g.K then [] else [g.k[i]] := by
      rw [ht]; unfold fl; rw [List.filter_append]; by_cases e : g.k[i] = g.K <;> simp [e]
    have hw : cnK g.K (g.k.take (i + 1)) = cnK g.K (g.k.take i) + if g.k[i] = g.K then 1 else 0 := by
      rw [ht]; unfold cnK; rw [List.countP_append]; by_cases e : g.k[i] = g.K <;> simp [e]
    refine br_dec (by omega) ⟨c1, br_if (fun e => ?_) (fun e => ?_)⟩
    · rw [if_pos e, List.append_nil] at hf
      rw [if_pos e] at hw
      exact ⟨i + 1, by omega, by omega, by rw [hf], by rw [hw]; exact (i64_succ (by omega)).symm, (i64_succ (by omega)).symm, by rw [hf]⟩
    · rw [if_neg e] at hf hw
      refine br_dec (by omega) ⟨c1, br_dec (by omega) (br_dec (by omega) ⟨i + 1, by omega, by omega, by rw [hf, List.length_append]; rfl, by rw [hw]; rfl, (i64_succ (by omega)).symm, ?_⟩)⟩
      rw [hf, ← gC_app]
      generalize fl g.K (g.k.take i) = F
      rw [List.take_of_length_le (by rw [sLen]; exact Nat.le_refl _)]
      rfl
  · have e : g.k.take i = g.k := List.take_of_length_le (by omega)
    rw [e]
    exact ⟨(), rfl, rfl, rfl⟩
theorem mt_B (p : Pg) (A b : ByteArray) : mtV (keyE (pgB ⟨A, b⟩)) [] (pgB p) = decide (p.A = A) := mt_pg A p.A
theorem filt_B (A b : ByteArray) (ps : List Pg) : (ps.map pgB).filter (fun x => !mtV (keyE (pgB ⟨A, b⟩)) [] x) = (ps.filter fun p => decide (p.A ≠ A)).map pgB := by
  rw [List.filter_map]
  refine congrArg _ (List.filter_congr fun p _ => ?_)
  simp only [Function.comp, mt_B]
  by_cases h : p.A = A <;> simp [h]
theorem cos_B (p : Pg) (h : (L p.A).length = 1) : cosE (pgB p) = 109 + ((L p.b).length : Int) := by
  show cosL htB p.A slB p.b [] [] = _
  unfold cosL
  rw [h]
  show (100 : Int) + ((4 + 3 + 1 + 1 : Nat) : Int) + 0 + 0 + _ = _
  omega
theorem su_B : ∀ ps : List Pg, (∀ p ∈ ps, (L p.A).length = 1 ∧ (L p.b).length ≤ 40) → suV (ps.map pgB) ≤ 149 * (ps.length : Int)
  | [], _ => Int.le_refl _
  | p :: ps, h => by
    have h1 := h p (by simp)
    have h2 := su_B ps fun q hq => h q (List.mem_cons_of_mem _ hq)
    rw [List.map_cons, suV_cons, cos_B p h1.1, List.length_cons]
    omega
theorem put_B {s : SS} {i : Nat} (h : OkP s i) (hi : i < 40) (A b : ByteArray) (hA : (L A).length = 1) (hb : (L b).length ≤ 40) : puB s (pgB ⟨A, b⟩) = true ∧ OkP (puS s (pgB ⟨A, b⟩)) (i + 1) := by
  obtain ⟨h1, h2, ps, h3, h4, h5⟩ := h
  have hEOk : EOk (pgB ⟨A, b⟩) := ⟨by show (L htB).length ≤ 1048576; decide, by show (L A).length ≤ _; omega, by show (L slB).length ≤ 1048576; decide, by show (L b).length ≤ _; omega, fv0, fv0⟩
  have hc := cos_B ⟨A, b⟩ hA
  simp only at hc
  obtain ⟨w1, w2, w3⟩ := vw_put h3 (pgB ⟨A, b⟩) hEOk (by omega)
  have hl : ps.length ≤ 40 := by
    obtain ⟨ord, o1, o2⟩ := h3
    have := vw_len o1
    rw [o2, List.length_map] at this
    omega
  refine ⟨by unfold puB; rw [hc, h1]; exact decide_eq_true (by omega), by rw [w3, h1], by omega, ⟨A, b⟩ :: ps.filter (fun p => decide (p.A ≠ A)), ?_, ?_, ?_⟩
  · have e : puV s.bud (ps.map pgB) (pgB ⟨A, b⟩) = (⟨A, b⟩ :: ps.filter (fun p => decide (p.A ≠ A)) : List Pg).map pgB := by
      have hs := su_B (ps.filter fun p => decide (p.A ≠ A)) fun p hp => h5 p (List.mem_filter.1 hp).1
      have hfl := List.length_filter_le (fun p : Pg => decide (p.A ≠ A)) ps
      unfold puV
      rw [hc, h1, if_neg (by omega), show (pgB ⟨A, b⟩).e = [] from rfl, filt_B, pfx_all _ _ (by omega)]
      rfl
    rw [← e]; exact w1
  · rw [List.map_cons]
    refine List.nodup_cons.2 ⟨fun hm => ?_, ?_⟩
    · obtain ⟨p, hp, e⟩ := List.mem_map.1 hm
      have := (List.mem_filter.1 hp).2
      simp at this; exact this e
    · exact h4.sublist (List.filter_sublist.map _)
  · intro p hp
    rcases List.mem_cons.1 hp with rfl | hp
    · exact ⟨hA, hb⟩
    · exact h5 p (List.mem_filter.1 hp).1
theorem Rp_piece : PieceOk ERl 1 (7, pRp, specRp) := by
  refine piece_loop mixed (calls_envT tRl_ok) (lok_envT _ _) lm_none (n := 200) (by kernel_rfl) (fun _ : GRl => (⟨s0 16777216, 0⟩ : TRl)) (fun g t => t.i ≤ 40 ∧ OkP t.s t.i) (fun g t => g.l.length - t.i) (sl := slRp) (rl := rlRp) (fun g hg => ⟨Nat.zero_le _, rfl, Nat.zero_le _, [], vw0 _, List.nodup_nil, by simp⟩) (fun g t hg hi => ?_)
  refine (Rp_round g t _ _ _).mpr ?_
  obtain ⟨i1, i2⟩ := hi
  have e1 : ({ data := #[104, 116, 116, 112] } : ByteArray) = htB := rfl
  have e2 : ({ data := #[47] } : ByteArray) = slB := rfl
  have e3 : ({ data := #[71, 69, 84] } : ByteArray) = getB := rfl
  simp only [ofNat_eq, toNat_cast, Nat.zero_add, Nat.add_zero, Nat.mul_one, List.drop_zero, bCells_len, bCells_drop, bCells_take, bCells_app, bCells_one, bCells_plain, List.length_replicate, List.length_append, List.length_take, List.length_drop, List.take_length, and_true, true_and, and_self, decide_true, List.length_nil, List.length_cons, Nat.sub_zero, dB_mk, dB_ro, List.take_zero, nPl, mC_plain, iCells_plain, sPl, sLen, e1, e2, e3]
  have hex : OkP t.s 40 := ⟨i2.1, Nat.le_trans i2.2.1 i1, i2.2.2⟩
  refine br_if (fun h1 => br_if (fun h2 => br_dec (by omega) ?_) (fun h2 => ⟨t.s, hex, rfl, rfl, rfl, rfl, rfl, rfl, rfl, rfl, rfl⟩)) (fun h1 => ⟨t.s, hex, rfl, rfl, rfl, rfl, rfl, rfl, rfl, rfl, rfl⟩)
  have h1 : t.i < g.l.length := by omega
  have h2 : t.i < 40 := by omega
  have hA1 : (L ({ data := { toList := [UInt8.ofNat (IntKind.u8.wrap (IntKind.i64.wrap (97 + inside (cellI (iCells IntKind.i64 g.l) t.i) 0 9))).toNat] } } : ByteArray)).length = 1 := rfl
  generalize ({ data := { toList := [UInt8.ofNat (IntKind.u8.wrap (IntKind.i64.wrap (97 + inside (cellI (iCells IntKind.i64 g.l) t.i) 0 9))).toNat] } } : ByteArray) = A at *
  have hB1 : (L ({ data := { toList := List.map bOf (List.take t.i (List.replicate t.i (Value.int IntKind.u8 0))) } } : ByteArray)).length ≤ 40 := by
    show (List.map bOf (List.take t.i (List.replicate t.i (Value.int IntKind.u8 0)))).length ≤ 40
    rw [List.length_map, List.length_take, List.length_replicate]; omega
  generalize ({ data := { toList := List.map bOf (List.take t.i (List.replicate t.i (Value.int IntKind.u8 0))) } } : ByteArray) = B at *
  obtain ⟨m1, m2, m3, m4, m5, m6, m7, m8, m9⟩ := pt_mk t.s (pgB ⟨A, B⟩).x [] [] true true (.cells true) (.cells true)
  rw [show gC enF [] = [] from rfl] at m1 m2 m3 m4 m5 m6 m7 m8 m9
  simp only [pgB] at m1 m2 m3 m4 m5 m6 m7 m8 m9
  simp only [m1, m2, m3, m4, m5, m6, m7, m8, m9, nPl, mC_plain, iCells_plain]
  clear m1 m2 m3 m4 m5 m6 m7 m8 m9
  have hpe : (⟨⟨getB, htB, A, slB, 0, 0, 0, B, 0, 0⟩, [], []⟩ : En) = pgB ⟨A, B⟩ := rfl
  simp only [hpe]
  have t1 : TOk htB := by unfold TOk; decide
  have t2 : TOk A := by unfold TOk; omega
  have t3 : TOk slB := by unfold TOk; decide
  have t4 : TOk B := by unfold TOk; omega
  obtain ⟨p1, p2⟩ := put_B i2 h2 A B hA1 hB1
  have hbd : t.s.bud ≤ 1099511627776 := by rw [i2.1]; omega
  have hpd : PDr t.s.bud t.s.siz t.s.nw t.s.ol t.s.fn t.s.nd.length ⟨gC ndC t.s.nd, false, .cells true⟩ ⟨iCells .i64 t.s.fr, false, .cells true⟩ ⟨mC t.s.m, false, .map true⟩ := by
    obtain ⟨_, _, ps, ⟨o1, q1, _⟩, _⟩ := i2
    exact pDr_mk t.s o1 q1.inv q1.sz
  have hbud : (puS t.s (pgB ⟨A, B⟩)).bud = t.s.bud := pu_len _ _
  rw [p1]
  refine ⟨iCells_at h1, ⟨by rw [iCells_cell h1, List.getD_eq_getElem?_getD, List.getElem?_eq_getElem h1]; exact hg _ (List.getElem_mem h1), by omega, by omega, by omega⟩, br_dec (by omega) (br_dec (by omega) ⟨?_, ⟨⟨trivial, trivial, trivial⟩, t1, t2, t3, t4, isF0, isF0, fvr0, fvr0, hbd, hpd⟩, br_nb rfl ?_⟩)⟩
  · intro v hv
    have := List.mem_of_mem_take hv
    rw [List.mem_replicate] at this
    rw [this.2]; exact ⟨_, rfl⟩
  · exact ⟨⟨puS t.s (pgB ⟨A, B⟩), t.i + 1⟩, ⟨by simp only; omega, p2⟩, by simp only; omega, (i64_succ (by omega)).symm, hbud, rfl, rfl, rfl, rfl, rfl, rfl, rfl, rfl⟩
theorem cn_fl (K : List UInt8) : ∀ w : List (List UInt8), cnK K w + (fl K w).length = w.length
  | [] => rfl
  | x :: w => by
    have h := cn_fl K w
    unfold cnK fl at *
    rw [List.countP_cons, List.filter_cons]
    by_cases e : x = K
    · simp only [e, decide_true, if_true, ne_eq, not_true_eq_false, decide_false, Bool.false_eq_true, if_false, List.length_cons] at *
      omega
    · simp only [e, decide_false, Bool.false_eq_true, if_false, ne_eq, not_false_eq_true, decide_true, if_true, List.length_cons] at *
      omega
theorem cn_one (A : ByteArray) : ∀ ks : List ByteArray, ks.Nodup → cnK (L (keyE (pgE A))) (kk ks) ≤ 1
  | [], _ => Nat.zero_le _
  | B :: ks, h => by
    obtain ⟨n1, n2⟩ := List.nodup_cons.1 h
    have hr := cn_one A ks n2
    unfold cnK kk at *
    rw [List.map_cons, List.countP_cons]
    by_cases e : B = A
    · subst e
      have h0 : List.countP (fun x => decide (x = L (keyE (pgE B)))) (List.map (fun B => L (keyE (pgE B))) ks) = 0 := by
        rw [List.countP_eq_zero]
        intro x hx
        obtain ⟨C, hC, rfl⟩ := List.mem_map.1 hx
        have : C ≠ B := fun e => n1 (e ▸ hC)
        simpa using fun e => this ((keyL_eq B C).1 e)
      rw [h0]; simp
    · have : ¬ L (keyE (pgE B)) = L (keyE (pgE A)) := fun q => e ((keyL_eq A B).1 q)
      simp only [this, decide_false, Bool.false_eq_true, if_false]; omega
theorem rv_x {s : SS} {o : List Nat} (w : VwO s o) (ps : List Pg) (z : vwL s o = ps.map pgB) (A : ByteArray) : ∃ o', VwO (drS prT s (mget s.m (keyE (pgE A)))) o' ∧ vwL (drS prT s (mget s.m (keyE (pgE A)))) o' = (ps.filter fun p => decide (p.A ≠ A)).map pgB ∧ rvN s (keyE (pgE A)) = (ps.length : Int) - ((ps.filter fun p => decide (p.A ≠ A)).length : Int) := by
  obtain ⟨o', w', z', _⟩ := vw_dr w (keyE (pgE A)) prT (fun _ _ _ => rfl) (fun _ => true) (fun _ _ => rfl)
  have z2 : vwL (drS prT s (mget s.m (keyE (pgE A)))) o' = (ps.filter fun p => decide (p.A ≠ A)).map pgB := by
    rw [z', z, List.filter_map]
    refine congrArg _ (List.filter_congr fun p _ => ?_)
    simp only [Function.comp, Bool.and_true]
    have : (keyE (pgB p) = keyE (pgE A)) ↔ p.A = A := ⟨fun h => key_inj (A := p.A) h, fun h => by rw [← h]; rfl⟩
    by_cases h : p.A = A
    · simp [h, this.2 h]
    · have h2 : ¬ keyE (pgB p) = keyE (pgE A) := fun q => h (this.1 q)
      simp [h, h2]
  refine ⟨o', w', z2, ?_⟩
  have h1 := vw_len w
  have h2 := vw_len w'
  rw [z, List.length_map] at h1
  rw [z2, List.length_map, (drS_len prT _ s).1] at h2
  unfold rvN
  omega
theorem kk_fl (A : ByteArray) (ps : List Pg) : kk ((ps.filter fun p => decide (p.A ≠ A)).map Pg.A) = fl (L (keyE (pgE A))) (kk (ps.map Pg.A)) := by
  rw [fl_pg, List.filter_map]; rfl
theorem Rl_x (l : List Int) (n : Int) (hn : I64 n) (hl : l.length ≤ maxLen) (hx : ∀ x ∈ l, I64 x) : Con Try.prog 7 [.slice (some ⟨0, 0, none⟩) l.length 1, .int .i64 n] [iRo .i64 l] (.bool true) [iRo .i64 l] := by
  refine con_vc (E := ERl) mixed (calls_envT tRl_ok) (lok_envT _ _) (M := mRl) (lm_two Rp_piece Rk_piece) (Rl_vc l n) ?_
  have e1 : ({ data := #[104, 116, 116, 112] } : ByteArray) = htB := rfl
  have e2 : ({ data := #[47] } : ByteArray) = slB := rfl
  simp only [ofNat_eq, toNat_cast, Nat.zero_add, Nat.add_zero, Nat.mul_one, List.drop_zero, bCells_len, bCells_drop, bCells_take, bCells_app, bCells_one, bCells_plain, List.length_replicate, List.length_append, List.length_take, List.length_drop, List.take_length, and_true, true_and, and_self, decide_true, List.length_nil, List.length_cons, Nat.sub_zero, dB_mk, dB_ro, List.take_zero, nPl, mC_plain, iCells_plain, sPl, sLen, e1, e2]
  have hA1 : (L ({ data := { toList := [UInt8.ofNat (IntKind.u8.wrap (IntKind.i64.wrap (97 + inside n 0 9))).toNat] } } : ByteArray)).length = 1 := rfl
  generalize ({ data := { toList := [UInt8.ofNat (IntKind.u8.wrap (IntKind.i64.wrap (97 + inside n 0 9))).toNat] } } : ByteArray) = A at *
  have t1 : TOk htB := by unfold TOk; decide
  have t2 : TOk A := by unfold TOk; omega
  have t3 : TOk slB := by unfold TOk; decide
  have hK : keyV htB A slB = keyE (pgE A) := rfl
  simp only [hK]
  refine ⟨⟨hn, by omega, by omega, by omega⟩, by intro v hv; simp at hv, ⟨t1, t2, t3, isF0⟩, ⟨l, L (keyE (pgE A))⟩, hx, rfl, rfl, rfl, fun s hs => ?_⟩
  obtain ⟨s1, s2, ps, ⟨o, w, z⟩, s4, s5⟩ := hs
  have hpd := pDr_mk s o w.inv w.sz
  obtain ⟨n1, n2⟩ := ky_mk w.inv w.sz
  have n3 : kyL s o = kk (ps.map Pg.A) := by rw [vw_keys w, z, List.map_map]; unfold kk; rw [List.map_map]; rfl
  rw [n3] at n1 n2
  simp only [n1, n2, hpd, sPl, true_and, and_true]
  have hkl : (kk (ps.map Pg.A)).length ≤ 40 := by
    have h1 := vw_len w
    rw [z, List.length_map] at h1
    unfold kk; rw [List.length_map, List.length_map]; omega
  refine ⟨⟨l, s, kk (ps.map Pg.A), L (keyE (pgE A))⟩, by simp only; omega, rfl, rfl, rfl, rfl, rfl, rfl, rfl, rfl, rfl, rfl, rfl, rfl, rfl, rfl, fun _ _ => ?_⟩
  have hbs : bs (L (keyE (pgE A))) = keyE (pgE A) := rfl
  obtain ⟨m1, m2, m3, m4, m5, m6, m7, m8⟩ := dt_mk s (keyE (pgE A))
  simp only [hbs, m1, m2, m3, m4, m5, m6, m7, m8, hpd, nPl, mC_plain, iCells_plain, true_and, and_true]
  obtain ⟨o', w', z', hr⟩ := rv_x w ps z A
  obtain ⟨o2, w2, z2, hr2⟩ := rv_x w' _ z' A
  obtain ⟨hl1, hl2⟩ := drS_len prT (mget s.m (keyE (pgE A))) s
  have hpd' := pDr_mk _ o' w'.inv w'.sz
  obtain ⟨k1, k2⟩ := ky_mk w'.inv w'.sz
  have k3 : kyL (drS prT s (mget s.m (keyE (pgE A)))) o' = fl (L (keyE (pgE A))) (kk (ps.map Pg.A)) := by rw [vw_keys w', z', List.map_map, ← kk_fl]; unfold kk; rw [List.map_map]; rfl
  rw [k3] at k1 k2
  obtain ⟨q1, q2, q3, q4, q5, q6, q7, q8⟩ := dt_mk (drS prT s (mget s.m (keyE (pgE A)))) (keyE (pgE A))
  rw [hl2] at hpd' k1 k2 q1 q2 q3 q4 q5 q6 q7 q8
  rw [hl1] at hpd' q8
  have hff : ((ps.filter fun p => decide (p.A ≠ A)).filter fun p => decide (p.A ≠ A)) = ps.filter fun p => decide (p.A ≠ A) := by rw [List.filter_filter]; simp
  rw [hff, Int.sub_self] at hr2
  have hcf := cn_fl (L (keyE (pgE A))) (kk (ps.map Pg.A))
  have hc1 := cn_one A (ps.map Pg.A) s4
  have hlk : (kk (ps.map Pg.A)).length = ps.length := by unfold kk; rw [List.length_map, List.length_map]
  have hlf : (fl (L (keyE (pgE A))) (kk (ps.map Pg.A))).length = (ps.filter fun p => decide (p.A ≠ A)).length := by rw [← kk_fl]; unfold kk; rw [List.length_map, List.length_map]
  have hrc : rvN s (keyE (pgE A)) = ((cnK (L (keyE (pgE A))) (kk (ps.map Pg.A)) : Nat) : Int) := by rw [hr]; omega
  simp only [k1, k2, hpd', q1, q2, q3, q4, q5, q6, q7, q8, hrc, hr2, nPl, mC_plain, iCells_plain, sPl, sLen, sTake, true_and, and_true]
  refine br_b (by simp) (br_dec (by omega) ⟨⟨⟨Nat.le_refl _, Nat.le_refl _⟩, isS_mk _ _ rfl, isS_mk _ _ rfl, by omega⟩, ?_⟩)
  rw [Go.Proofs.Ytcjbpmphkmcmjaa.sb.sameR_gC, decide_eq_true rfl]
  exact br_b rfl (br_b rfl trivial)
theorem Rl_law2 (l : List Int) (n : Int) (hl : l.length ≤ maxLen) (hx : ∀ x ∈ l, (Lit.int .i64 x).wf = true) (hn : I64 n) : Con Try.prog 7 [.slice (some ⟨0, 0, none⟩) l.length 1, .int .i64 n] [iRo .i64 l] (.bool true) [iRo .i64 l] := Rl_x l n hn hl fun x h => wf64 (hx x h)
end Go.Proofs.Ytcjbpmphkmcmjaa.so
