/- The store: all nodes of a key that fit are taken out. -/
import Derived.Test.YtcjbpmphkmcmjaaSz9
import Derived.Test.YtcjbpmphkmcmjaaRows
import Derived.Test.YtcjbpmphkmcmjaaLsoI
set_option maxRecDepth 20000
set_option linter.unusedSimpArgs false
set_option linter.unusedVariables false
namespace Go.Proofs.Ytcjbpmphkmcmjaa.so
open Go Go.Ev Go.Sy Go.RowKit Go.Proofs.Ytcjbpmphkmcmjaa.gl Go.Proofs.Ytcjbpmphkmcmjaa.tk Go.Proofs.Ytcjbpmphkmcmjaa.cp Go.Proofs.Ytcjbpmphkmcmjaa.ic
noncomputable def tF1 : List EntM := [eMa]
noncomputable abbrev EF1 : Env := envT Try.prog tF1
def capF (f : FuncId) : List TypeId := bif Nat.beq f 33 then [1000000 + 33] else []
noncomputable def eF1 : EntM := (33, fun a r => match a, r with
  | [.agg ⟨[.string m, .string s, .string a, .string p, .slice (some ⟨0, 0, none⟩) n0 2, .int .i64 k, .int .i64 st, .slice (some ⟨1, 0, none⟩) n1 2, .int .i64 k2, .string b, .int .i64 t1, .int .i64 t2]⟩, .pointer (some ⟨2, 0, none⟩)], [r0, r1, ⟨[.string qm, .string qs, .string qa, .string qp, .slice (some ⟨3, 0, none⟩) n2 2, .int .i64 qk, .int .i64 qst, .slice (some ⟨4, 0, none⟩) n3 2, .int .i64 qk2, .string qb, .int .i64 q1, .int .i64 q2], false, .cells false⟩, r3, r4] =>
    some (IsF r0 n0 ∧ IsF r1 n1 ∧ IsF r3 n2 ∧ IsF r4 n3 ∧ FVR r0 ∧ FVR r1 ∧ FVR r3, .bool (maR r0 r1 r3), 5, [(2, ⟨[.string qm, .string qs, .string qa, .string qp, .slice (some ⟨3, 0, none⟩) n2 2, .int .i64 qk, .int .i64 qst, .slice (some ⟨4, 0, none⟩) n3 2, .int .i64 qk2, .string qb, .int .i64 q1, .int .i64 q2], false, .cells false⟩)])
  | _, _ => none)
noncomputable def tDr : List EntM := [eF1, eRm]
noncomputable abbrev EDr : Env := envTd Try.prog tDr capF
def dr1 (pr : Nd → Bool) (s : SS) (i : Int) : SS := if pr (gN s.nd i.toNat) then rmS s i.toNat else s
def drS (pr : Nd → Bool) (s : SS) (l : List Int) : SS := l.foldl (dr1 pr) s
structure Sz (s : SS) (ord : List Nat) : Prop where
  len : s.nd.length ≤ 1000
  fv : ∀ i, FV (gN s.nd i).e ∧ FV (gN s.nd i).r
  cst : ∀ i ∈ ord, 0 ≤ (gN s.nd i).cost ∧ (gN s.nd i).cost ≤ 1099511627776
def DrOk (s : SS) (l : List Int) : Prop := ∃ ord, SInv s ord ∧ Sz s ord ∧ l.Nodup ∧ ∀ x ∈ l, ∃ i ∈ ord, x = ((i : Nat) : Int)
structure GDr where
  s : SS
  x : EnX
  e : List Fl
  r : List Fl
  l : List Int
def prM (q : List Fl) (n : Nd) : Bool := matL n.e n.r q
def pDr : List Nat := [0, 1]
def fnV : Value := .func (.func 33) #[] #[.pointer (some ⟨1, 0, none⟩)]
def slDr (g : GDr) (j : Nat) : List (Nat × Value) := [(0, .pointer (some ⟨0, 0, none⟩)), (2, fnV), (14, .slice (some ⟨7, 0, none⟩) g.l.length 1), (15, .int .i64 (g.l.length : Nat)), (16, .int .i64 (j : Nat))]
noncomputable def rwDr (s : SS) (x : EnX) (e r : List Fl) : List (Nat × Row) := [(0, ssR s 2 8 4), (1, ⟨enCells x 5 e.length 6 r.length, false, .cells false⟩), (2, gOwn ndC s.nd), (8, iOwn .i64 s.fr), (4, mpR s.m), (5, gRo enF e), (6, gRo enF r)]
noncomputable def rlDr (g : GDr) (s : SS) : List (Nat × Row) := rwDr s g.x g.e g.r ++ [(7, iOwn .i64 g.l)]
noncomputable def wsDr (g : GDr) : List (Gate Unit) := [⟨.exit 0, fun _ => True, fun _ => [], fun _ => rwDr (drS (prM g.e) g.s g.l) g.x g.e g.r, 9⟩]
structure SDr where
  s : SS
  j : Nat
noncomputable def specDr : Sy.Spec := specOf 7 9 34 (fun g : GDr => DrOk g.s g.l ∧ g.l.length ≤ 1000 ∧ FV g.e) (fun g => slDr g 0) (fun g => rlDr g g.s) wsDr
noncomputable def mDr := mOf [(32, pDr, specDr)]
theorem F1_vc (y x : EnX) (e r q q2 : List Fl) (b : Bool) : mcall EF1 noM 60 33 [.agg ⟨enCells y 0 e.length 1 r.length⟩, .pointer (some ⟨2, 0, none⟩)] ⟨mkR (nums 0 [gRo enF e, gRo enF r, ⟨enCells x 3 q.length 4 q2.length, false, .cells false⟩, gRo enF q, gRo enF q2]), 5⟩ (retIsM 5 (.bool b) 5 [(2, ⟨enCells x 3 q.length 4 q2.length, false, .cells false⟩)]) =
  let z1 := (Row.mk (List.take (List.length e * 2) (List.drop 0 (gC enF e))) true (Ob.cells true)); let z2 := (Row.mk (List.take (List.length r * 2) (List.drop 0 (gC enF
  r))) true (Ob.cells true)); let z3 := (Row.mk (List.take (List.length q * 2) (List.drop 0 (gC enF q))) true (Ob.cells true)); (((((True /\ (True /\ (True /\ (True /\ ((0 +
  List.length e * 2 <= List.length (gC enF e) /\ Plain (List.take (List.length e * 2) (List.drop 0 (gC enF e)))) /\ (True /\ (True /\ ((0 + List.length r * 2 <= List.length
  (gC enF r) /\ Plain (List.take (List.length r * 2) (List.drop 0 (gC enF r)))) /\ (True /\ (True /\ (True /\ (True /\ True)))))))))))) /\ ((True /\ (True /\ (True /\ (True
  /\ ((0 + List.length q * 2 <= List.length (gC enF q) /\ Plain (List.take (List.length q * 2) (List.drop 0 (gC enF q)))) /\ (True /\ True)))))) /\ True)) /\ ((True /\ (True
  /\ (True /\ True))) /\ (True /\ (IsF z1 (List.length e) /\ (IsF z2 (List.length r) /\ (IsF z3 (List.length q) /\ (FVR z1 /\ (FVR z2 /\ FVR z3))))))))) /\ ((b = maR z1 z2
  z3) /\ ((x.1 = x.1) /\ ((x.2 = x.2) /\ ((x.3 = x.3) /\ ((x.4 = x.4) /\ ((0 = 0) /\ ((List.length q = List.length q) /\ ((x.5 = x.5) /\ ((x.6 = x.6) /\ ((0 = 0) /\
  ((List.length q2 = List.length q2) /\ ((x.7 = x.7) /\ ((x.8 = x.8) /\ ((x.9 = x.9) /\ ((x.10 = x.10) /\ True)))))))))))))))) := by kernel_rfl
theorem Dr_round (g : GDr) (t : SDr) (Inv : SDr → Prop) (m : SDr → Nat) : mev EDr noM 100 32 (0 :: pDr) false (codeOf Try.prog 32 (0 :: pDr)) ⟨mkOv (slDr g t.j), 34, []⟩ none ⟨mkR (rlDr g t.s), 9⟩ (roundK 7 9 34 Inv m (fun t : SDr => slDr g t.j) (fun t => rlDr g t.s) (wsDr g) t) =
  let z1 := (cellI (iCells IntKind.i64 g.5) (0 + Int.toNat (↑t.2 : Int) * 1)); let z2 := (0 + Int.toNat z1 * 16 + 0 + 1 + 1 + 1 + 1 + 1 + 1 + 1); let z12 := (cellZ (gC ndC
  t.1.3) (0 + Int.toNat z1 * 16 + 0 + 1 + 1 + 1 + 1)); let z3 := (Row.mk (List.take (cellN (gC ndC t.1.3) (0 + Int.toNat z1 * 16 + 0 + 1 + 1 + 1 + 1) * 2) (List.drop (cellO
  (gC ndC t.1.3) (0 + Int.toNat z1 * 16 + 0 + 1 + 1 + 1 + 1)) (gCells z12))) true (Ob.cells true)); let z4 := (Row.mk (iCells IntKind.i64 t.1.4) false (Ob.cells true)); let
  z5 := (Row.mk (gC ndC t.1.3) false (Ob.cells true)); let z6 := (Row.mk (List.take (cellN (gC ndC t.1.3) z2 * 2) (List.drop (cellO (gC ndC t.1.3) z2) (gCells (cellZ (gC ndC
  t.1.3) z2)))) true (Ob.cells true)); let z7 := ((Eq (α := List Value) (gC enF g.3) (gC enF g.3)) /\ ((Plain (gC enF g.3)) /\ ((Eq (α := List Value) (gC enF g.4) (gC enF
  g.4)) /\ ((Plain (gC enF g.4)) /\ ((Eq (α := List Value) (iCells IntKind.i64 g.5) (iCells IntKind.i64 g.5)) /\ ((Plain (iCells IntKind.i64 g.5)) /\ True)))))); let z8 :=
  (Row.mk (List.take (List.length g.3 * 2) (List.drop 0 (gC enF g.3))) true (Ob.cells true)); let z9 := (rmNd t.1.1 t.1.2 t.1.6 t.1.7 t.1.5 z5 z4 (Row.mk (mC t.1.8) false
  (Ob.map true)) z1); let z10 := (rmFr t.1.1 t.1.2 t.1.6 t.1.7 t.1.5 z5 z4 (Row.mk (mC t.1.8) false (Ob.map true)) z1); let z11 := (rmMc t.1.1 t.1.2 t.1.6 t.1.7 t.1.5 z5 z4
  (Row.mk (mC t.1.8) false (Ob.map true)) z1); let z13 := (cellN (gC ndC t.1.3) (0 + Int.toNat z1 * 16 + 0 + 1 + 1 + 1 + 1)); let z14 := (List.take (List.length g.4 * 2)
  (List.drop 0 (gC enF g.4))); let z15 := (iCells IntKind.i64 (drS (prM (GDr.e g)) (GDr.s g) g.5).4); let z16 := ((↑(List.length g.5) : Int) = (↑(List.length g.5) : Int));
  let z17 := (gC ndC (drS (prM (GDr.e g)) (GDr.s g) g.5).3); (br (decide ((↑t.2 : Int) < (↑(List.length g.5) : Int))) (br (decide ((0 : Int) <= (↑t.2 : Int) /\ (↑t.2 : Int)
  < (↑(List.length g.5) : Int))) ((Eq (α := Option Value) ((iCells IntKind.i64 g.5)[0 + Int.toNat (↑t.2 : Int) * 1]?) (some (Value.int IntKind.i64 z1))) /\ (br (decide ((0 :
  Int) <= cellI (iCells IntKind.i64 g.5) (0 + Int.toNat (↑t.2 : Int) * 1) /\ cellI (iCells IntKind.i64 g.5) (0 + Int.toNat (↑t.2 : Int) * 1) < (↑(List.length t.1.3) : Int)))
  ((Eq (α := Option Value) ((gC ndC t.1.3)[0 + Int.toNat z1 * 16 + 0]?) (some (Value.string (cellS (gC ndC t.1.3) (0 + Int.toNat z1 * 16 + 0))))) /\ ((Eq (α := Option Value)
  ((gC ndC t.1.3)[0 + Int.toNat z1 * 16 + 0 + 1]?) (some (Value.string (cellS (gC ndC t.1.3) (0 + Int.toNat z1 * 16 + 0 + 1))))) /\ ((Eq (α := Option Value) ((gC ndC
  t.1.3)[0 + Int.toNat z1 * 16 + 0 + 1 + 1]?) (some (Value.string (cellS (gC ndC t.1.3) (0 + Int.toNat z1 * 16 + 0 + 1 + 1))))) /\ ((Eq (α := Option Value) ((gC ndC t.1.3)[0
  + Int.toNat z1 * 16 + 0 + 1 + 1 + 1]?) (some (Value.string (cellS (gC ndC t.1.3) (0 + Int.toNat z1 * 16 + 0 + 1 + 1 + 1))))) /\ ((Eq (α := Option Value) ((gC ndC t.1.3)[0
  + Int.toNat z1 * 16 + 0 + 1 + 1 + 1 + 1]?) (some (Value.slice (some (Addr.mk z12 (cellO (gC ndC t.1.3) (0 + Int.toNat z1 * 16 + 0 + 1 + 1 + 1 + 1)) (some 0))) z13 2))) /\
  ((Eq (α := Option Value) ((gC ndC t.1.3)[0 + Int.toNat z1 * 16 + 0 + 1 + 1 + 1 + 1 + 1]?) (some (Value.int IntKind.i64 (cellI (gC ndC t.1.3) (0 + Int.toNat z1 * 16 + 0 + 1
  + 1 + 1 + 1 + 1))))) /\ ((Eq (α := Option Value) ((gC ndC t.1.3)[0 + Int.toNat z1 * 16 + 0 + 1 + 1 + 1 + 1 + 1 + 1]?) (some (Value.int IntKind.i64 (cellI (gC ndC t.1.3) (0
  + Int.toNat z1 * 16 + 0 + 1 + 1 + 1 + 1 + 1 + 1))))) /\ ((Eq (α := Option Value) ((gC ndC t.1.3)[0 + Int.toNat z1 * 16 + 0 + 1 + 1 + 1 + 1 + 1 + 1 + 1]?) (some
  (Value.slice (some (Addr.mk (cellZ (gC ndC t.1.3) z2) (cellO (gC ndC t.1.3) z2) (some 0))) (cellN (gC ndC t.1.3) z2) 2))) /\ ((Eq (α := Option Value) ((gC ndC t.1.3)[0 +
  Int.toNat z1 * 16 + 0 + 1 + 1 + 1 + 1 + 1 + 1 + 1 + 1]?) (some (Value.int IntKind.i64 (cellI (gC ndC t.1.3) (0 + Int.toNat z1 * 16 + 0 + 1 + 1 + 1 + 1 + 1 + 1 + 1 + 1)))))
  /\ ((Eq (α := Option Value) ((gC ndC t.1.3)[0 + Int.toNat z1 * 16 + 0 + 1 + 1 + 1 + 1 + 1 + 1 + 1 + 1 + 1]?) (some (Value.string (cellS (gC ndC t.1.3) (0 + Int.toNat z1 *
  16 + 0 + 1 + 1 + 1 + 1 + 1 + 1 + 1 + 1 + 1))))) /\ ((Eq (α := Option Value) ((gC ndC t.1.3)[0 + Int.toNat z1 * 16 + 0 + 1 + 1 + 1 + 1 + 1 + 1 + 1 + 1 + 1 + 1]?) (some
  (Value.int IntKind.i64 (cellI (gC ndC t.1.3) (0 + Int.toNat z1 * 16 + 0 + 1 + 1 + 1 + 1 + 1 + 1 + 1 + 1 + 1 + 1))))) /\ ((Eq (α := Option Value) ((gC ndC t.1.3)[0 +
  Int.toNat z1 * 16 + 0 + 1 + 1 + 1 + 1 + 1 + 1 + 1 + 1 + 1 + 1 + 1]?) (some (Value.int IntKind.i64 (cellI (gC ndC t.1.3) (0 + Int.toNat z1 * 16 + 0 + 1 + 1 + 1 + 1 + 1 + 1
  + 1 + 1 + 1 + 1 + 1))))) /\ (((((True /\ (True /\ (True /\ (True /\ (cellO (gC ndC t.1.3) (0 + Int.toNat z1 * 16 + 0 + 1 + 1 + 1 + 1) + cellN (gC ndC t.1.3) (0 + Int.toNat
  z1 * 16 + 0 + 1 + 1 + 1 + 1) * 2 <= List.length (gCells z12) /\ (True /\ (True /\ (cellO (gC ndC t.1.3) z2 + cellN (gC ndC t.1.3) z2 * 2 <= List.length (gCells (cellZ (gC
  ndC t.1.3) z2)) /\ (True /\ (True /\ (True /\ (True /\ True)))))))))))) /\ (True /\ True)) /\ ((True /\ (True /\ ((True /\ (True /\ (True /\ (True /\ ((0 + List.length g.3
  * 2 <= List.length (gC enF g.3) /\ Plain (List.take (List.length g.3 * 2) (List.drop 0 (gC enF g.3)))) /\ (True /\ (True /\ ((0 + List.length g.4 * 2 <= List.length (gC
  enF g.4) /\ Plain z14) /\ (True /\ (True /\ (True /\ (True /\ True)))))))))))) /\ (True /\ (True /\ True))))) /\ (True /\ (IsF z3 z13 /\ (IsF z6 (cellN (gC ndC t.1.3) z2)
  /\ (IsF z8 (List.length g.3) /\ (IsF (Row.mk z14 true (Ob.cells true)) (List.length g.4) /\ (FVR z3 /\ (FVR z6 /\ FVR z8)))))))))) /\ (br (maR z3 z6 z8) ((((True /\ (True
  /\ True)) /\ (((True /\ (True /\ (True /\ (True /\ (True /\ (True /\ (True /\ True))))))) /\ (Plain (gC ndC t.1.3) /\ (Plain (iCells IntKind.i64 t.1.4) /\ (Plain (mC
  t.1.8) /\ True)))) /\ ((Plain z9 /\ (Plain z10 /\ (Plain z11 /\ True))) /\ PRm t.1.1 t.1.2 t.1.6 t.1.7 t.1.5 (List.length t.1.3) z5 z4 (Row.mk (mC t.1.8) false (Ob.map
  true)) z1)))) /\ (∃ j : SDr, ((Inv j) /\ ((m j < m t) /\ ((0 = 0) /\ ((0 = 0) /\ ((0 = 0) /\ ((List.length g.5 = List.length g.5) /\ (z16 /\ (((↑j.2 : Int) = IntKind.wrap
  IntKind.i64 ((↑t.2 : Int) + (1 : Int))) /\ ((j.1.1 = t.1.1) /\ ((j.1.2 = rmSiz t.1.1 t.1.2 t.1.6 t.1.7 t.1.5 z5 z4 (Row.mk (mC t.1.8) false (Ob.map true)) z1) /\ ((0 = 0)
  /\ ((List.length j.1.3 = List.length t.1.3) /\ ((0 = 0) /\ ((j.1.5 = t.1.5 + 1) /\ ((j.1.6 = rmNw t.1.1 t.1.2 t.1.6 t.1.7 t.1.5 z5 z4 (Row.mk (mC t.1.8) false (Ob.map
  true)) z1) /\ ((j.1.7 = rmOl t.1.1 t.1.2 t.1.6 t.1.7 t.1.5 z5 z4 (Row.mk (mC t.1.8) false (Ob.map true)) z1) /\ ((g.2.1 = g.2.1) /\ ((g.2.2 = g.2.2) /\ ((g.2.3 = g.2.3) /\
  ((g.2.4 = g.2.4) /\ ((0 = 0) /\ ((List.length g.3 = List.length g.3) /\ ((g.2.5 = g.2.5) /\ ((g.2.6 = g.2.6) /\ ((0 = 0) /\ ((List.length g.4 = List.length g.4) /\ ((g.2.7
  = g.2.7) /\ ((g.2.8 = g.2.8) /\ ((g.2.9 = g.2.9) /\ ((g.2.10 = g.2.10) /\ ((Eq (α := List Value) (gC ndC j.1.3) z9) /\ ((Plain (gC ndC j.1.3)) /\ ((Eq (α := List Value)
  (iCells IntKind.i64 j.1.4) z10) /\ ((Plain (iCells IntKind.i64 j.1.4)) /\ ((Eq (α := List Value) (mC j.1.8) z11) /\ ((Plain (mC j.1.8)) /\
  z7)))))))))))))))))))))))))))))))))))))) (∃ j : SDr, ((Inv j) /\ ((m j < m t) /\ ((0 = 0) /\ ((0 = 0) /\ ((0 = 0) /\ ((List.length g.5 = List.length g.5) /\ (z16 /\
  (((↑j.2 : Int) = IntKind.wrap IntKind.i64 ((↑t.2 : Int) + (1 : Int))) /\ ((j.1.1 = t.1.1) /\ ((j.1.2 = t.1.2) /\ ((0 = 0) /\ ((List.length j.1.3 = List.length t.1.3) /\
  ((0 = 0) /\ ((j.1.5 = t.1.5) /\ ((j.1.6 = t.1.6) /\ ((j.1.7 = t.1.7) /\ ((g.2.1 = g.2.1) /\ ((g.2.2 = g.2.2) /\ ((g.2.3 = g.2.3) /\ ((g.2.4 = g.2.4) /\ ((0 = 0) /\
  ((List.length g.3 = List.length g.3) /\ ((g.2.5 = g.2.5) /\ ((g.2.6 = g.2.6) /\ ((0 = 0) /\ ((List.length g.4 = List.length g.4) /\ ((g.2.7 = g.2.7) /\ ((g.2.8 = g.2.8) /\
  ((g.2.9 = g.2.9) /\ ((g.2.10 = g.2.10) /\ ((Eq (α := List Value) (gC ndC j.1.3) (gC ndC t.1.3)) /\ ((Plain (gC ndC j.1.3)) /\ ((Eq (α := List Value) (iCells IntKind.i64
  j.1.4) (iCells IntKind.i64 t.1.4)) /\ ((Plain (iCells IntKind.i64 j.1.4)) /\ ((Eq (α := List Value) (mC j.1.8) (mC t.1.8)) /\ ((Plain (mC j.1.8)) /\
  z7))))))))))))))))))))))))))))))))))))))))))))))))))) False)) False) (∃ y : Unit, ((True) /\ (((drS (prM (GDr.e g)) (GDr.s g) g.5).1 = t.1.1) /\ (((drS (prM (GDr.e g))
  (GDr.s g) g.5).2 = t.1.2) /\ ((0 = 0) /\ ((List.length (drS (prM (GDr.e g)) (GDr.s g) g.5).3 = List.length t.1.3) /\ ((0 = 0) /\ (((drS (prM (GDr.e g)) (GDr.s g) g.5).5 =
  t.1.5) /\ (((drS (prM (GDr.e g)) (GDr.s g) g.5).6 = t.1.6) /\ (((drS (prM (GDr.e g)) (GDr.s g) g.5).7 = t.1.7) /\ ((g.2.1 = g.2.1) /\ ((g.2.2 = g.2.2) /\ ((g.2.3 = g.2.3)
  /\ ((g.2.4 = g.2.4) /\ ((0 = 0) /\ ((List.length g.3 = List.length g.3) /\ ((g.2.5 = g.2.5) /\ ((g.2.6 = g.2.6) /\ ((0 = 0) /\ ((List.length g.4 = List.length g.4) /\
  ((g.2.7 = g.2.7) /\ ((g.2.8 = g.2.8) /\ ((g.2.9 = g.2.9) /\ ((g.2.10 = g.2.10) /\ ((Eq (α := List Value) z17 (gC ndC t.1.3)) /\ ((Plain z17) /\ ((Eq (α := List Value) z15
  (iCells IntKind.i64 t.1.4)) /\ ((Plain z15) /\ ((Eq (α := List Value) (mC (drS (prM (GDr.e g)) (GDr.s g) g.5).8) (mC t.1.8)) /\ ((Plain (mC (drS (prM (GDr.e g)) (GDr.s g)
  g.5).8)) /\ ((Eq (α := List Value) (gC enF g.3) (gC enF g.3)) /\ ((Plain (gC enF g.3)) /\ ((Eq (α := List Value) (gC enF g.4) (gC enF g.4)) /\ ((Plain (gC enF g.4)) /\
  True))))))))))))))))))))))))))))))))))) := by kernel_rfl
theorem Dr_vc (s s' : SS) (K : ByteArray) (x : EnX) (e r : List Fl) : mcall EDr mDr 100 32 [.pointer (some ⟨0, 0, none⟩), .string K, fnV] ⟨mkR (nums 0 [ssR s 2 3 4, ⟨enCells x 5 e.length 6 r.length, false, .cells false⟩, gOwn ndC s.nd, iOwn .i64 s.fr, mpR s.m, gRo enF e, gRo enF r]), 7⟩ (retIsM 7 (.tuple #[]) 8 [(0, ssR s' 2 7 4), (1, ⟨enCells x 5 e.length 6 r.length, false, .cells false⟩), (2, gOwn ndC s'.nd), (7, iOwn .i64 s'.fr), (4, mpR s'.m)]) =
  let z1 := (List.take (cellN (mpOne (mC s.8) (Value.string K)) 0 * 1) (List.drop (cellO (mpOne (mC s.8) (Value.string K)) 0) (gCells (cellZ (mpOne (mC s.8) (Value.string
  K)) 0)))); ((MKeys (mC s.8) (Value.string K)) /\ ((IsOne (mpOne (mC s.8) (Value.string K)) (Value.slice (some (Addr.mk (cellZ (mpOne (mC s.8) (Value.string K)) 0) (cellO
  (mpOne (mC s.8) (Value.string K)) 0) (some 0))) (cellN (mpOne (mC s.8) (Value.string K)) 0) 1)) /\ (br (decide (cellO (mpOne (mC s.8) (Value.string K)) 0 + cellN (mpOne
  (mC s.8) (Value.string K)) 0 * 1 <= List.length (gCells (cellZ (mpOne (mC s.8) (Value.string K)) 0)))) (br (allOne z1) (br (decide (cellN (mpOne (mC s.8) (Value.string K))
  0 <= 16777216)) (∃ g : GDr, ((DrOk (GDr.s g) g.5 /\ List.length g.5 <= 1000 /\ FV g.3) /\ ((0 = 0) /\ ((0 = 0) /\ ((0 = 0) /\ ((List.length g.5 = cellN (mpOne (mC s.8)
  (Value.string K)) 0) /\ (((↑(List.length g.5) : Int) = Int.ofNat (cellN (mpOne (mC s.8) (Value.string K)) 0)) /\ (((0 : Int) = (0 : Int)) /\ ((g.1.1 = s.1) /\ ((g.1.2 =
  s.2) /\ ((0 = 0) /\ ((List.length g.1.3 = List.length s.3) /\ ((0 = 0) /\ ((g.1.5 = s.5) /\ ((g.1.6 = s.6) /\ ((g.1.7 = s.7) /\ ((g.2.1 = x.1) /\ ((g.2.2 = x.2) /\ ((g.2.3
  = x.3) /\ ((g.2.4 = x.4) /\ ((0 = 0) /\ ((List.length g.3 = List.length e) /\ ((g.2.5 = x.5) /\ ((g.2.6 = x.6) /\ ((0 = 0) /\ ((List.length g.4 = List.length r) /\ ((g.2.7
  = x.7) /\ ((g.2.8 = x.8) /\ ((g.2.9 = x.9) /\ ((g.2.10 = x.10) /\ ((Eq (α := List Value) (gC ndC g.1.3) (gC ndC s.3)) /\ ((Plain (gC ndC g.1.3)) /\ ((Eq (α := List Value)
  (iCells IntKind.i64 g.1.4) (iCells IntKind.i64 s.4)) /\ ((Plain (iCells IntKind.i64 g.1.4)) /\ ((Eq (α := List Value) (mC g.1.8) (mC s.8)) /\ ((Plain (mC g.1.8)) /\ ((Eq
  (α := List Value) (gC enF g.3) (gC enF e)) /\ ((Plain (gC enF g.3)) /\ ((Eq (α := List Value) (gC enF g.4) (gC enF r)) /\ ((Plain (gC enF g.4)) /\ ((Eq (α := List Value)
  (iCells IntKind.i64 g.5) z1) /\ ((Plain (iCells IntKind.i64 g.5)) /\ (∀ (y : Unit), ((True) → ((s'.1 = (drS (prM (GDr.e g)) (GDr.s g) g.5).1) /\ ((s'.2 = (drS (prM (GDr.e
  g)) (GDr.s g) g.5).2) /\ ((0 = 0) /\ ((List.length s'.3 = List.length (drS (prM (GDr.e g)) (GDr.s g) g.5).3) /\ ((0 = 0) /\ ((s'.5 = (drS (prM (GDr.e g)) (GDr.s g) g.5).5)
  /\ ((s'.6 = (drS (prM (GDr.e g)) (GDr.s g) g.5).6) /\ ((s'.7 = (drS (prM (GDr.e g)) (GDr.s g) g.5).7) /\ ((x.1 = g.2.1) /\ ((x.2 = g.2.2) /\ ((x.3 = g.2.3) /\ ((x.4 =
  g.2.4) /\ ((0 = 0) /\ ((List.length e = List.length g.3) /\ ((x.5 = g.2.5) /\ ((x.6 = g.2.6) /\ ((0 = 0) /\ ((List.length r = List.length g.4) /\ ((x.7 = g.2.7) /\ ((x.8 =
  g.2.8) /\ ((x.9 = g.2.9) /\ ((x.10 = g.2.10) /\ ((Eq (α := List Value) (gC ndC s'.3) (gC ndC (drS (prM (GDr.e g)) (GDr.s g) g.5).3)) /\ ((Plain (gC ndC s'.3)) /\ ((Eq (α
  := List Value) (iCells IntKind.i64 s'.4) (iCells IntKind.i64 (drS (prM (GDr.e g)) (GDr.s g) g.5).4)) /\ ((Plain (iCells IntKind.i64 s'.4)) /\ ((Eq (α := List Value) (mC
  s'.8) (mC (drS (prM (GDr.e g)) (GDr.s g) g.5).8)) /\ ((Plain (mC s'.8)) /\ True)))))))))))))))))))))))))))))))))))))))))))))))))))))))))))))))))))))))) False) False)
  False))) := by kernel_rfl
theorem tF1_ok : ∀ x ∈ tF1, EntOk Try.prog x := all_cons eMa_ok all_nil
theorem F1_con (y x : EnX) (e r q q2 : List Fl) (h1 : FV e) (h2 : FV r) (h3 : FV q) : ConM Try.prog 33 [.agg ⟨enCells y 0 e.length 1 r.length⟩, .pointer (some ⟨2, 0, none⟩)] [gRo enF e, gRo enF r, ⟨enCells x 3 q.length 4 q2.length, false, .cells false⟩, gRo enF q, gRo enF q2] (.bool (matL e r q)) 5 [(2, ⟨enCells x 3 q.length 4 q2.length, false, .cells false⟩)] := by
  refine conM_vc (E := EF1) mixed (calls_envT tF1_ok) (lok_envT _ _) (M := noM) lm_none (F1_vc y x e r q q2 _) ?_
  have i1 : ∀ l : List Fl, IsF ⟨gC enF l, true, .cells true⟩ l.length := fun l => isF_mk _ _ rfl
  simp only [ofNat_eq, toNat_cast, Nat.zero_add, Nat.add_zero, Nat.mul_one, List.drop_zero, bCells_len, bCells_drop, bCells_take, bCells_app, bCells_one, bCells_plain, List.length_replicate, List.length_append, List.length_take, List.length_drop, List.take_length, and_true, true_and, and_self, decide_true, List.length_nil, List.length_cons, Nat.sub_zero, dB_mk, dB_ro, List.take_zero, fPl, fLen, fTake, fvR, z_ma, h1, h2, h3, i1]
  exact ⟨⟨Nat.le_refl _, Nat.le_refl _⟩, Nat.le_refl _⟩
theorem eF1_ok : EntOk Try.prog eF1 := by
  intro a rows q v n' rl h hp
  unfold eF1 at h
  simp only at h
  split at h
  · rename_i m s a p n0 k st n1 k2 b t1 t2 r0 r1 qm qs qa qp n2 qk qst n3 qk2 qb q1 q2 r3 r4
    simp only [Option.some.injEq, Prod.mk.injEq] at h
    obtain ⟨rfl, rfl, rfl, rfl⟩ := h
    obtain ⟨⟨e, rfl, rfl⟩, ⟨r, rfl, rfl⟩, ⟨l1, rfl, rfl⟩, ⟨l2, rfl, rfl⟩, h1, h2, h3⟩ := hp
    unfold gRo at h1 h2 h3 ⊢
    rw [fvR] at h1 h2 h3
    rw [z_ma]
    exact F1_con ⟨m, s, a, p, k, st, k2, b, t1, t2⟩ ⟨qm, qs, qa, qp, qk, qst, qk2, qb, q1, q2⟩ e r l1 l2 h1 h2 h3
  · simp at h
theorem tDr_ok : ∀ x ∈ tDr, EntOk Try.prog x := all_cons eF1_ok (all_cons eRm_ok all_nil)
theorem nb_in {s : SS} {ord : List Nat} (h : SInv s ord) {i : Nat} (hi : i ∈ ord) : ((gN s.nd i).nw = -1 ∨ ∃ a ∈ ord, (gN s.nd i).nw = ((a : Nat) : Int)) ∧ ((gN s.nd i).ol = -1 ∨ ∃ a ∈ ord, (gN s.nd i).ol = ((a : Nat) : Int)) := by
  obtain ⟨l1, l2, rfl⟩ := List.append_of_mem hi
  obtain ⟨_, d2, d3, _⟩ := (DL_app _ _ _ _ _).1 h.dl
  rw [d2, d3]
  constructor
  · rcases lsQ_in l1 with ⟨e, _⟩ | ⟨a, ha, e⟩
    · exact .inl e
    · exact .inr ⟨a, by simp [ha], e⟩
  · rcases hdQ_in l2 with ⟨e, _⟩ | ⟨a, ha, e⟩
    · exact .inl e
    · exact .inr ⟨a, by simp [ha], e⟩
theorem sum_le (f : Nat → Int) : ∀ (l : List Nat), (∀ i ∈ l, 0 ≤ f i ∧ f i ≤ 1099511627776) → 0 ≤ (l.map f).sum ∧ (l.map f).sum ≤ 1099511627776 * (l.length : Int)
  | [], _ => by simp
  | a :: l, h => by
    have := sum_le f l fun i hi => h i (List.mem_cons_of_mem _ hi)
    have h2 := h a (by simp)
    simp only [List.map_cons, List.sum_cons, List.length_cons]
    omega
theorem preRm_of {s : SS} {ord : List Nat} (h : SInv s ord) (hz : Sz s ord) {i : Nat} (hi : i ∈ ord) : PreRm s ((i : Nat) : Int) := by
  obtain ⟨n1, n2⟩ := nb_in h hi
  have hl := h.lt i hi
  have hle := hz.len
  have hc := h.cnt
  unfold PreRm
  rw [Int.toNat_natCast]
  refine ⟨⟨by omega, by omega⟩, by omega, ?_, ?_, ?_, ⟨h.fle, by omega⟩, ?_⟩
  · rcases n1 with e | ⟨a, ha, e⟩
    · exact .inl e
    · have := h.lt a ha; rw [e]; exact .inr ⟨by omega, by omega⟩
  · rcases n2 with e | ⟨a, ha, e⟩
    · exact .inl e
    · have := h.lt a ha; rw [e]; exact .inr ⟨by omega, by omega⟩
  · rw [h.mp, List.length_map]
    exact Nat.le_trans (List.length_filter_le _ _) (by omega)
  · have h1 := sum_le (fun i => (gN s.nd i).cost) ord hz.cst
    have h2 := hz.cst i hi
    rw [h.siz]; unfold I64; omega
theorem sz_rm {s : SS} {ord : List Nat} (h : SInv s ord) (hz : Sz s ord) {i : Nat} (hi : i ∈ ord) : Sz (rmS s i) (ord.filter (fun j => decide (j ≠ i))) := by
  obtain ⟨_, hs⟩ := SInv_rm h hi
  have hil := h.lt i hi
  obtain ⟨n1, n2⟩ := nb_in h hi
  refine ⟨by show (rmN s i).length ≤ 1000; rw [rmN_len]; exact hz.len, fun j => ?_, fun j hj => ?_⟩
  · show FV (gN (rmN s i) j).e ∧ FV (gN (rmN s i) j).r
    by_cases hji : j = i
    · have : gN (rmN s i) j = ndZ := by
        unfold rmN; simp only
        rw [gN_modify, if_pos]
        refine ⟨hji, ?_⟩
        repeat' split
        all_goals first | exact hil | (simp only [List.length_modify]; exact hil)
      rw [this]
      exact ⟨⟨⟨Nat.zero_le _, Nat.zero_le _⟩, fun x => Nat.zero_le _⟩, ⟨⟨Nat.zero_le _, Nat.zero_le _⟩, fun x => Nat.zero_le _⟩⟩
    · by_cases hjl : j < s.nd.length
      · have := (rmN_get s i j hjl hji (by rcases n1 with e | ⟨a, _, e⟩ <;> rw [e] <;> omega) (by rcases n2 with e | ⟨a, _, e⟩ <;> rw [e] <;> omega)).2.2
        rw [this.2.1, this.2.2.1]; exact hz.fv j
      · have : gN (rmN s i) j = ndZ := by
          unfold gN; rw [List.getD_eq_getElem?_getD, List.getElem?_eq_none (by rw [rmN_len]; omega)]; rfl
        rw [this]
        exact ⟨⟨⟨Nat.zero_le _, Nat.zero_le _⟩, fun x => Nat.zero_le _⟩, ⟨⟨Nat.zero_le _, Nat.zero_le _⟩, fun x => Nat.zero_le _⟩⟩
  · obtain ⟨k1, k2⟩ := List.mem_filter.1 hj
    rw [(hs j k1 (by simpa using k2)).2.2.2.2]; exact hz.cst j k1
theorem drOk_step {pr : Nd → Bool} {s : SS} {i : Int} {l : List Int} (h : DrOk s (i :: l)) : DrOk (dr1 pr s i) l ∧ PreRm s i := by
  obtain ⟨ord, h1, h2, h3, h4⟩ := h
  obtain ⟨k, hk, rfl⟩ := h4 i (by simp)
  have hn := List.nodup_cons.1 h3
  refine ⟨?_, preRm_of h1 h2 hk⟩
  unfold dr1
  rw [Int.toNat_natCast]
  split
  · refine ⟨_, (SInv_rm h1 hk).1, sz_rm h1 h2 hk, hn.2, fun x hx => ?_⟩
    obtain ⟨j, hj, rfl⟩ := h4 x (List.mem_cons_of_mem _ hx)
    exact ⟨j, List.mem_filter.2 ⟨hj, by simp; intro e; subst e; exact hn.1 hx⟩, rfl⟩
  · exact ⟨ord, h1, h2, hn.2, fun x hx => h4 x (List.mem_cons_of_mem _ hx)⟩
theorem Dr_piece : PieceOk EDr 7 (32, pDr, specDr) := by
  refine piece_loop mixed (calls_envTd tDr_ok) (lok_envTd _ _ _) lm_none (n := 100) (by kernel_rfl) (fun g : GDr => (⟨g.s, 0⟩ : SDr)) (fun g t => t.j ≤ g.l.length ∧ DrOk t.s (g.l.drop t.j) ∧ drS (prM g.e) t.s (g.l.drop t.j) = drS (prM g.e) g.s g.l) (fun g t => g.l.length - t.j) (sl := fun g t => slDr g t.j) (rl := fun g t => rlDr g t.s) (fun g hg => ⟨Nat.zero_le _, hg.1, rfl⟩) (fun g t hg hi => ?_)
  refine (Dr_round g t _ _).mpr ?_
  obtain ⟨s0, x, e, r, l⟩ := g
  obtain ⟨s, j⟩ := t
  obtain ⟨g1, g2, g3⟩ := hg
  obtain ⟨h1, h2, h3⟩ := hi
  simp only at g1 g2 g3 h1 h2 h3
  simp only [ofNat_eq, toNat_cast, Nat.zero_add, Nat.add_zero, Nat.mul_one, List.drop_zero, bCells_len, bCells_drop, bCells_take, bCells_app, bCells_one, bCells_plain, List.length_replicate, List.length_append, List.length_take, List.length_drop, List.take_length, and_true, true_and, and_self, decide_true, List.length_nil, List.length_cons, Nat.sub_zero, dB_mk, dB_ro, List.take_zero, fPl, fLen, nPl, mC_plain, iCells_plain, iCells_len, Nat.add_assoc, Nat.reduceAdd]
  refine br_if (fun h => br_dec (by omega) ?_) (fun h => ?_)
  · have hi : j < l.length := by omega
    have c1 := iCells_get (k := .i64) hi
    have c2 := iCells_cell (k := .i64) hi
    have w := i64_succ (show j < 9223372036854775807 by omega)
    have hd : l.drop j = l.getD j 0 :: l.drop (j + 1) := by rw [List.drop_eq_getElem_cons hi, List.getD_eq_getElem?_getD, List.getElem?_eq_getElem hi]; rfl
    rw [hd] at h2 h3
    obtain ⟨k1, k2⟩ := drOk_step (pr := prM e) h2
    have h3' : drS (prM e) (dr1 (prM e) s (l.getD j 0)) (l.drop (j + 1)) = drS (prM e) s0 l := h3
    simp only [Int.toNat_natCast, c1, c2, w, true_and]
    generalize l.getD j 0 = i at *
    obtain ⟨hi1, _⟩ := k2
    refine br_dec hi1 ?_
    have hx2 : i.toNat < s.nd.length := by omega
    obtain ⟨a0, a1, a2, a3, a4, a5, a6, a7, a8, a9, a10, a11, a12, a13, a14, a15⟩ := nGetA s.nd i.toNat hx2
    obtain ⟨b0, b1, b2, b3, b4, b4o, b4n, b5, b6, b7, b7o, b7n, b8, b9, b10, b11, b12, b13, b14, b15⟩ := nGetB s.nd i.toNat hx2
    obtain ⟨ord, q1, q2, q3, q4⟩ := h2
    obtain ⟨f1, f2⟩ := q2.fv i.toNat
    have i1 : ∀ l : List Fl, IsF ⟨gC enF l, true, .cells true⟩ l.length := fun l => isF_mk _ _ rfl
    obtain ⟨m1, m2, m3, m4, m5, m6⟩ := rm_mk s i
    have hp := pRm_mk s i ⟨hi1, ‹_›⟩
    simp only [a0, a1, a2, a3, a4, a5, a6, a7, a8, a9, a10, a11, b0, b1, b2, b3, b4, b4o, b4n, b5, b6, b7, b7o, b7n, b8, b9, b10, b11, gF0, gFt, fvR, z_ma, f1, f2, g3, i1, fTake, m1, m2, m3, m4, m5, m6, hp, true_and, and_true]
    refine ⟨⟨⟨Nat.le_refl _, fPl _⟩, Nat.le_refl _, fPl _⟩, br_intro (fun k => ⟨⟨nPl _, iCells_plain _ _, mC_plain _⟩, ⟨rmS s i.toNat, j + 1⟩, ⟨by simp only; omega, ?_, ?_⟩, by simp only; omega, rfl, rfl, rfl, rmN_len s i.toNat, rfl, rfl, rfl, rfl, rfl, rfl⟩) (fun k => ⟨⟨s, j + 1⟩, ⟨by simp only; omega, ?_, ?_⟩, by simp only; omega, rfl, rfl, rfl, rfl, rfl, rfl, rfl, rfl, rfl, rfl⟩)⟩
    · have e1 : dr1 (prM e) s i = rmS s i.toNat := if_pos k
      rw [e1] at k1; exact k1
    · have e1 : dr1 (prM e) s i = rmS s i.toNat := if_pos k
      rw [e1] at h3'; exact h3'
    · have e1 : dr1 (prM e) s i = s := if_neg (by show ¬ (matL _ _ _ = true); rw [k]; simp)
      rw [e1] at k1; exact k1
    · have e1 : dr1 (prM e) s i = s := if_neg (by show ¬ (matL _ _ _ = true); rw [k]; simp)
      rw [e1] at h3'; exact h3'
  · have e0 : l.drop j = [] := List.drop_eq_nil_of_le (by omega)
    rw [e0] at h3
    have h3 : s = drS (prM e) s0 l := h3
    rw [← h3]
    exact ⟨(), rfl, rfl, rfl, rfl, rfl, rfl, rfl, rfl, rfl⟩
theorem mget_ok {s : SS} {ord : List Nat} (h : SInv s ord) (hz : Sz s ord) (K : ByteArray) : DrOk s (mget s.m K) ∧ (mget s.m K).length ≤ 1000 ∧ IxOk s.nd (mget s.m K) := by
  have hc := h.cnt
  have hl := hz.len
  rw [h.mp]
  refine ⟨⟨ord, h, hz, ?_, fun x hx => ?_⟩, ?_, fun x hx => ?_⟩
  · refine List.Pairwise.map _ (fun a b hab e => hab ?_) (h.nod.filter _)
    have e : (a : Int) = (b : Int) := e
    omega
  · obtain ⟨i, hi, rfl⟩ := List.mem_map.1 hx
    exact ⟨i, (List.mem_filter.1 hi).1, rfl⟩
  · rw [List.length_map]; exact Nat.le_trans (List.length_filter_le _ _) (by omega)
  · obtain ⟨i, hi, rfl⟩ := List.mem_map.1 hx
    have := h.lt i (List.mem_filter.1 hi).1
    show 0 ≤ (i : Int) ∧ (i : Int) < _
    omega
theorem Dr_con (s : SS) (ord : List Nat) (h : SInv s ord) (hz : Sz s ord) (K : ByteArray) (x : EnX) (e r : List Fl) (he : FV e) : ConM Try.prog 32 [.pointer (some ⟨0, 0, none⟩), .string K, fnV] [ssR s 2 3 4, ⟨enCells x 5 e.length 6 r.length, false, .cells false⟩, gOwn ndC s.nd, iOwn .i64 s.fr, mpR s.m, gRo enF e, gRo enF r] (.tuple #[]) 8
    [(0, ssR (drS (prM e) s (mget s.m K)) 2 7 4), (1, ⟨enCells x 5 e.length 6 r.length, false, .cells false⟩), (2, gOwn ndC (drS (prM e) s (mget s.m K)).nd), (7, iOwn .i64 (drS (prM e) s (mget s.m K)).fr), (4, mpR (drS (prM e) s (mget s.m K)).m)] := by
  refine conM_vc (E := EDr) mixed (calls_envTd tDr_ok) (lok_envTd _ _ _) (M := mDr) (lm_one Dr_piece) (Dr_vc s _ K x e r) ?_
  obtain ⟨d1, d2, d3⟩ := mget_ok h hz K
  obtain ⟨q1, q2, q3⟩ := mC_gi K s.m
  have hone : ∀ l : List Int, allOne (iCells .i64 l) = true := fun l => iCells_one _ l
  simp only [ofNat_eq, toNat_cast, Nat.zero_add, Nat.add_zero, Nat.mul_one, List.drop_zero, bCells_len, bCells_drop, bCells_take, bCells_app, bCells_one, bCells_plain, List.length_replicate, List.length_append, List.length_take, List.length_drop, List.take_length, and_true, true_and, and_self, decide_true, List.length_nil, List.length_cons, Nat.sub_zero, dB_mk, dB_ro, List.take_zero, fPl, nPl, mC_plain, iCells_plain, mC_keysS, mC_isone, true_and, and_true]
  refine br_dec q1 (br_b (by rw [q2]; exact hone _) (br_dec (by omega) ⟨⟨s, x, e, r, mget s.m K⟩, ⟨d1, d2, he⟩, ?_⟩))
  rw [q2]
  refine ⟨q3.symm, by simp only; rw [q3], ?_⟩
  repeat (refine ⟨rfl, ?_⟩)
  intro _ _
  repeat (refine ⟨rfl, ?_⟩)
  rfl
end Go.Proofs.Ytcjbpmphkmcmjaa.so
