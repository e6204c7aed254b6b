/- The store: an entry is put into it. -/
import Derived.Test.YtcjbpmphkmcmjaaSz9
import Derived.Test.YtcjbpmphkmcmjaaRows
import Derived.Test.YtcjbpmphkmcmjaaLsoJ
set_option maxRecDepth 20000
set_option linter.unusedSimpArgs false
set_option linter.unusedVariables false
namespace Go.Proofs.Ytcjbpmphkmcmjaa.so
open Go Go.Ev Go.Sy Go.RowKit Go.Proofs.Ytcjbpmphkmcmjaa.gl Go.Proofs.Ytcjbpmphkmcmjaa.tk Go.Proofs.Ytcjbpmphkmcmjaa.cp Go.Proofs.Ytcjbpmphkmcmjaa.ic
noncomputable def dsSiz : Int → Int → Int → Int → Nat → Row → Row → Row → ByteArray → Row → Int := sealV fun bud siz nw ol fn r1 r2 r3 K q => (drS (prM (decF q.cells)) (sOf bud siz nw ol fn r1 r2 r3) (mget (dMp r3) K)).siz
noncomputable def dsNw : Int → Int → Int → Int → Nat → Row → Row → Row → ByteArray → Row → Int := sealV fun bud siz nw ol fn r1 r2 r3 K q => (drS (prM (decF q.cells)) (sOf bud siz nw ol fn r1 r2 r3) (mget (dMp r3) K)).nw
noncomputable def dsOl : Int → Int → Int → Int → Nat → Row → Row → Row → ByteArray → Row → Int := sealV fun bud siz nw ol fn r1 r2 r3 K q => (drS (prM (decF q.cells)) (sOf bud siz nw ol fn r1 r2 r3) (mget (dMp r3) K)).ol
noncomputable def dsFn : Int → Int → Int → Int → Nat → Row → Row → Row → ByteArray → Row → Nat := sealV fun bud siz nw ol fn r1 r2 r3 K q => (drS (prM (decF q.cells)) (sOf bud siz nw ol fn r1 r2 r3) (mget (dMp r3) K)).fn
noncomputable def dsNd : Int → Int → Int → Int → Nat → Row → Row → Row → ByteArray → Row → List Value := sealV fun bud siz nw ol fn r1 r2 r3 K q => gC ndC (drS (prM (decF q.cells)) (sOf bud siz nw ol fn r1 r2 r3) (mget (dMp r3) K)).nd
noncomputable def dsFr : Int → Int → Int → Int → Nat → Row → Row → Row → ByteArray → Row → List Value := sealV fun bud siz nw ol fn r1 r2 r3 K q => iCells .i64 (drS (prM (decF q.cells)) (sOf bud siz nw ol fn r1 r2 r3) (mget (dMp r3) K)).fr
noncomputable def dsMc : Int → Int → Int → Int → Nat → Row → Row → Row → ByteArray → Row → List Value := sealV fun bud siz nw ol fn r1 r2 r3 K q => mC (drS (prM (decF q.cells)) (sOf bud siz nw ol fn r1 r2 r3) (mget (dMp r3) K)).m
def PDr (bud siz nw ol : Int) (fn n : Nat) (r1 r2 r3 : Row) : Prop := ∃ s ord, HasS s bud siz nw ol fn n r1 r2 r3 ∧ SInv s ord ∧ Sz s ord
noncomputable def eDr : EntM := (32, fun a r => match a, r with
  | [.pointer (some ⟨0, 0, none⟩), .string K, .func (.func F) ⟨[]⟩ ⟨[.pointer (some ⟨1, 0, none⟩)]⟩], [⟨[.int .i64 bud, .int .i64 siz, .slice (some ⟨2, 0, none⟩) n 16, .slice (some ⟨3, 0, none⟩) fn 1, .int .i64 nw, .int .i64 ol, .map (some 4)], false, .cells false⟩, ⟨[.string qm, .string qs, .string qa, .string qp, .slice (some ⟨5, 0, none⟩) n2 2, .int .i64 qk, .int .i64 qst, .slice (some ⟨6, 0, none⟩) n3 2, .int .i64 qk2, .string qb, .int .i64 q1, .int .i64 q2], false, .cells false⟩, r2, r3, r4, q5, q6] =>
    bif Nat.beq F 33 then some (IsF q5 n2 ∧ IsF q6 n3 ∧ FVR q5 ∧ PDr bud siz nw ol fn n r2 r3 r4, .tuple #[], 8, [(0, ⟨[.int .i64 bud, .int .i64 (dsSiz bud siz nw ol fn r2 r3 r4 K q5), .slice (some ⟨2, 0, none⟩) n 16, .slice (some ⟨7, 0, none⟩) (dsFn bud siz nw ol fn r2 r3 r4 K q5) 1, .int .i64 (dsNw bud siz nw ol fn r2 r3 r4 K q5), .int .i64 (dsOl bud siz nw ol fn r2 r3 r4 K q5), .map (some 4)], false, .cells false⟩), (1, ⟨[.string qm, .string qs, .string qa, .string qp, .slice (some ⟨5, 0, none⟩) n2 2, .int .i64 qk, .int .i64 qst, .slice (some ⟨6, 0, none⟩) n3 2, .int .i64 qk2, .string qb, .int .i64 q1, .int .i64 q2], false, .cells false⟩), (2, ⟨(dsNd bud siz nw ol fn r2 r3 r4 K q5), false, .cells true⟩), (7, ⟨(dsFr bud siz nw ol fn r2 r3 r4 K q5), false, .cells true⟩), (4, ⟨(dsMc bud siz nw ol fn r2 r3 r4 K q5), false, .map true⟩)]) else none
  | _, _ => none)
noncomputable def tPu : List EntM := [eKy, eDr, eCs, eRm, eCp, eAo]
noncomputable abbrev EPu : Env := envTd Try.prog tPu capF
def trS : Nat → SS → Int → SS
  | 0, s, _ => s
  | k + 1, s, c => if s.siz + c > s.bud then trS k (rmS s s.ol.toNat) c else s
structure En where
  x : EnX
  e : List Fl
  r : List Fl
noncomputable def keyE (a : En) : ByteArray := keyV a.x.s a.x.a a.x.p
def cosE (a : En) : Int := cosL a.x.s a.x.a a.x.p a.x.body a.e a.r
noncomputable def ndE (a : En) : Nd := ⟨a.x, a.e, a.r, keyE a, cosE a, 0, 0⟩
noncomputable def puB (s : SS) (a : En) : Bool := decide (cosE a ≤ s.bud)
noncomputable def puS (s : SS) (a : En) : SS := if cosE a > s.bud then drS (prM a.e) s (mget s.m (keyE a)) else adS (trS (drS (prM a.e) s (mget s.m (keyE a))).nd.length (drS (prM a.e) s (mget s.m (keyE a))) (cosE a)) (ndE a)
def TrOk (s : SS) (k : Nat) (c : Int) : Prop := ∃ ord, SInv s ord ∧ Sz s ord ∧ ord.length ≤ k ∧ 0 ≤ c ∧ c ≤ s.bud ∧ s.bud ≤ 1099511627776
structure GTr where
  s : SS
  k : Nat
  a : En
  K : ByteArray
  c : Int
structure STr where
  s : SS
  k : Nat
def pTr : List Nat := [0, 0, 1, 1, 1, 1, 1]
def slTr (g : GTr) : List (Nat × Value) := [(0, .pointer (some ⟨0, 0, none⟩)), (3, .pointer (some ⟨6, 0, none⟩)), (5, .string g.K), (6, .int .i64 g.c)]
noncomputable def rwTr (s : SS) (a : En) : List (Nat × Row) := [(0, ssR s 3 7 5), (1, gRo enF a.e), (2, gRo enF a.r), (3, gOwn ndC s.nd), (7, iOwn .i64 s.fr), (5, mpR s.m), (6, ⟨enCells a.x 1 a.e.length 2 a.r.length, false, .cells false⟩)]
noncomputable def wsTr (g : GTr) : List (Gate Unit) := [⟨.exit 0, fun _ => True, fun _ => slTr g, fun _ => rwTr (trS g.k g.s g.c) g.a, 8⟩]
noncomputable def specTr : Sy.Spec := specOf 6 8 46 (fun g : GTr => TrOk g.s g.k g.c) slTr (fun g => rwTr g.s g.a) wsTr
noncomputable def mPu := mOf [(10, pTr, specTr)]
noncomputable def rwPu (s : SS) : List (Nat × Row) := [(0, ssR s 6 7 5), (6, gOwn ndC s.nd), (7, iOwn .i64 s.fr), (5, mpR s.m)]
theorem Tr_round (g : GTr) (t : STr) (Inv : STr → Prop) (m : STr → Nat) : mev EPu noM 100 10 (0 :: pTr) false (codeOf Try.prog 10 (0 :: pTr)) ⟨mkOv (slTr g), 46, []⟩ none ⟨mkR (rwTr t.s g.a), 8⟩ (roundK 6 8 46 Inv m (fun _ : STr => slTr g) (fun t => rwTr t.s g.a) (wsTr g) t) =
  let z1 := (Row.mk (iCells IntKind.i64 t.1.4) false (Ob.cells true)); let z2 := ((g.3.1.1 = g.3.1.1) /\ ((g.3.1.2 = g.3.1.2) /\ ((g.3.1.3 = g.3.1.3) /\ ((g.3.1.4 = g.3.1.4)
  /\ ((0 = 0) /\ ((List.length g.3.2 = List.length g.3.2) /\ ((g.3.1.5 = g.3.1.5) /\ ((g.3.1.6 = g.3.1.6) /\ ((0 = 0) /\ ((List.length g.3.3 = List.length g.3.3) /\
  ((g.3.1.7 = g.3.1.7) /\ ((g.3.1.8 = g.3.1.8) /\ ((g.3.1.9 = g.3.1.9) /\ ((g.3.1.10 = g.3.1.10) /\ True)))))))))))))); let z3 := (Row.mk (gC ndC t.1.3) false (Ob.cells
  true)); let z4 := (rmNd t.1.1 t.1.2 t.1.6 t.1.7 t.1.5 z3 z1 (Row.mk (mC t.1.8) false (Ob.map true)) t.1.7); let z5 := (rmFr t.1.1 t.1.2 t.1.6 t.1.7 t.1.5 z3 z1 (Row.mk (mC
  t.1.8) false (Ob.map true)) t.1.7); let z6 := (rmMc t.1.1 t.1.2 t.1.6 t.1.7 t.1.5 z3 z1 (Row.mk (mC t.1.8) false (Ob.map true)) t.1.7); let z7 := (Eq (α := List Value) (gC
  enF g.3.2) (gC enF g.3.2)); let z8 := (Eq (α := List Value) (gC enF g.3.3) (gC enF g.3.3)); let z9 := (iCells IntKind.i64 (trS g.2 (GTr.s g) g.5).4); ((Value.int
  IntKind.i64 t.1.2 = Value.int IntKind.i64 t.1.2) /\ ((Value.int IntKind.i64 t.1.1 = Value.int IntKind.i64 t.1.1) /\ (br (decide (IntKind.wrap IntKind.i64 (t.1.2 + g.5) >
  t.1.1)) ((((True /\ (True /\ True)) /\ (((True /\ (True /\ (True /\ (True /\ (True /\ (True /\ (True /\ True))))))) /\ (Plain (gC ndC t.1.3) /\ (Plain (iCells IntKind.i64
  t.1.4) /\ (Plain (mC t.1.8) /\ True)))) /\ ((Plain z4 /\ (Plain z5 /\ (Plain z6 /\ True))) /\ PRm t.1.1 t.1.2 t.1.6 t.1.7 t.1.5 (List.length t.1.3) z3 z1 (Row.mk (mC
  t.1.8) false (Ob.map true)) t.1.7)))) /\ (∃ j : STr, ((Inv j) /\ ((m j < m t) /\ ((0 = 0) /\ ((0 = 0) /\ ((g.4 = g.4) /\ ((g.5 = g.5) /\ ((j.1.1 = t.1.1) /\ ((j.1.2 =
  rmSiz t.1.1 t.1.2 t.1.6 t.1.7 t.1.5 z3 z1 (Row.mk (mC t.1.8) false (Ob.map true)) t.1.7) /\ ((0 = 0) /\ ((List.length j.1.3 = List.length t.1.3) /\ ((0 = 0) /\ ((j.1.5 =
  t.1.5 + 1) /\ ((j.1.6 = rmNw t.1.1 t.1.2 t.1.6 t.1.7 t.1.5 z3 z1 (Row.mk (mC t.1.8) false (Ob.map true)) t.1.7) /\ ((j.1.7 = rmOl t.1.1 t.1.2 t.1.6 t.1.7 t.1.5 z3 z1
  (Row.mk (mC t.1.8) false (Ob.map true)) t.1.7) /\ (z7 /\ ((Plain (gC enF g.3.2)) /\ (z8 /\ ((Plain (gC enF g.3.3)) /\ ((Eq (α := List Value) (gC ndC j.1.3) z4) /\ ((Plain
  (gC ndC j.1.3)) /\ ((Eq (α := List Value) (iCells IntKind.i64 j.1.4) z5) /\ ((Plain (iCells IntKind.i64 j.1.4)) /\ ((Eq (α := List Value) (mC j.1.8) z6) /\ ((Plain (mC
  j.1.8)) /\ z2)))))))))))))))))))))))))) (∃ y : Unit, ((True) /\ ((0 = 0) /\ ((0 = 0) /\ ((g.4 = g.4) /\ ((g.5 = g.5) /\ (((trS g.2 (GTr.s g) g.5).1 = t.1.1) /\ (((trS g.2
  (GTr.s g) g.5).2 = t.1.2) /\ ((0 = 0) /\ ((List.length (trS g.2 (GTr.s g) g.5).3 = List.length t.1.3) /\ ((0 = 0) /\ (((trS g.2 (GTr.s g) g.5).5 = t.1.5) /\ (((trS g.2
  (GTr.s g) g.5).6 = t.1.6) /\ (((trS g.2 (GTr.s g) g.5).7 = t.1.7) /\ (z7 /\ ((Plain (gC enF g.3.2)) /\ (z8 /\ ((Plain (gC enF g.3.3)) /\ ((Eq (α := List Value) (gC ndC
  (trS g.2 (GTr.s g) g.5).3) (gC ndC t.1.3)) /\ ((Plain (gC ndC (trS g.2 (GTr.s g) g.5).3)) /\ ((Eq (α := List Value) z9 (iCells IntKind.i64 t.1.4)) /\ ((Plain z9) /\ ((Eq
  (α := List Value) (mC (trS g.2 (GTr.s g) g.5).8) (mC t.1.8)) /\ ((Plain (mC (trS g.2 (GTr.s g) g.5).8)) /\ z2))))))))))))))))))))))))))) := by kernel_rfl
theorem Pu_vc (s s' : SS) (a : En) (b : Bool) : mcall EPu mPu 200 10 [.pointer (some ⟨0, 0, none⟩), .agg ⟨enCells a.x 1 a.e.length 2 a.r.length⟩] ⟨mkR (nums 0 [ssR s 3 4 5, gRo enF a.e, gRo enF a.r, gOwn ndC s.nd, iOwn .i64 s.fr, mpR s.m]), 6⟩ (retIsM 6 (.bool b) 8 (rwPu s')) =
  let z1 := (Row.mk (List.take (List.length a.2 * 2) (List.drop 0 (gC enF a.2))) true (Ob.cells true)); let z2 := (Row.mk (iCells IntKind.i64 s.4) false (Ob.cells true));
  let z3 := (True /\ (True /\ (True /\ (True /\ ((0 + List.length a.2 * 2 <= List.length (gC enF a.2) /\ Plain (List.take (List.length a.2 * 2) (List.drop 0 (gC enF a.2))))
  /\ (True /\ (True /\ ((0 + List.length a.3 * 2 <= List.length (gC enF a.3) /\ Plain (List.take (List.length a.3 * 2) (List.drop 0 (gC enF a.3)))) /\ (True /\ (True /\
  (True /\ (True /\ True)))))))))))); let z4 := (Row.mk (List.take (List.length a.3 * 2) (List.drop 0 (gC enF a.3))) true (Ob.cells true)); let z5 := (dsNd s.1 s.2 s.6 s.7
  s.5 (Row.mk (gC ndC s.3) false (Ob.cells true)) z2 (Row.mk (mC s.8) false (Ob.map true)) (keyV a.1.2 a.1.3 a.1.4) z1); let z6 := (dsFr s.1 s.2 s.6 s.7 s.5 (Row.mk (gC ndC
  s.3) false (Ob.cells true)) z2 (Row.mk (mC s.8) false (Ob.map true)) (keyV a.1.2 a.1.3 a.1.4) z1); let z7 := (dsMc s.1 s.2 s.6 s.7 s.5 (Row.mk (gC ndC s.3) false (Ob.cells
  true)) z2 (Row.mk (mC s.8) false (Ob.map true)) (keyV a.1.2 a.1.3 a.1.4) z1); let z8 := (True /\ (True /\ (True /\ (True /\ (True /\ (True /\ (True /\ True)))))));
  (((((True /\ (True /\ (True /\ (True /\ ((0 + List.length a.2 * 2 <= List.length (gC enF a.2) /\ Plain (List.take (List.length a.2 * 2) (List.drop 0 (gC enF a.2)))) /\
  (True /\ True)))))) /\ True) /\ ((True /\ True) /\ (True /\ (TOk a.1.2 /\ (TOk a.1.3 /\ (TOk a.1.4 /\ IsF z1 (List.length a.2)))))))) /\ ((((True /\ (True /\ ((True /\
  True) /\ True))) /\ ((z8 /\ (z3 /\ (Plain (gC ndC s.3) /\ (Plain (iCells IntKind.i64 s.4) /\ (Plain (mC s.8) /\ (True /\ (True /\ True))))))) /\ ((Plain z5 /\ (Plain z6 /\
  (Plain z7 /\ True))) /\ (IsF z1 (List.length a.2) /\ (IsF z4 (List.length a.3) /\ (FVR z1 /\ PDr s.1 s.2 s.6 s.7 s.5 (List.length s.3) (Row.mk (gC ndC s.3) false (Ob.cells
  true)) z2 (Row.mk (mC s.8) false (Ob.map true))))))))) /\ ((((z3 /\ True) /\ ((True /\ (True /\ True)) /\ (True /\ (TOk a.1.2 /\ (TOk a.1.3 /\ (TOk a.1.4 /\ (TOk a.1.8 /\
  (IsF z1 (List.length a.2) /\ (IsF z4 (List.length a.3) /\ (FOkR z1 /\ FOkR z4))))))))))) /\ (br (decide (cosR a.1.2 a.1.3 a.1.4 a.1.8 z1 z4 > s.1)) ((b = false) /\ ((s'.1
  = s.1) /\ ((s'.2 = dsSiz s.1 s.2 s.6 s.7 s.5 (Row.mk (gC ndC s.3) false (Ob.cells true)) z2 (Row.mk (mC s.8) false (Ob.map true)) (keyV a.1.2 a.1.3 a.1.4) z1) /\ ((0 = 0)
  /\ ((List.length s'.3 = List.length s.3) /\ ((0 = 0) /\ ((s'.5 = dsFn s.1 s.2 s.6 s.7 s.5 (Row.mk (gC ndC s.3) false (Ob.cells true)) z2 (Row.mk (mC s.8) false (Ob.map
  true)) (keyV a.1.2 a.1.3 a.1.4) z1) /\ ((s'.6 = dsNw s.1 s.2 s.6 s.7 s.5 (Row.mk (gC ndC s.3) false (Ob.cells true)) z2 (Row.mk (mC s.8) false (Ob.map true)) (keyV a.1.2
  a.1.3 a.1.4) z1) /\ ((s'.7 = dsOl s.1 s.2 s.6 s.7 s.5 (Row.mk (gC ndC s.3) false (Ob.cells true)) z2 (Row.mk (mC s.8) false (Ob.map true)) (keyV a.1.2 a.1.3 a.1.4) z1) /\
  ((Eq (α := List Value) (gC ndC s'.3) z5) /\ ((Plain (gC ndC s'.3)) /\ ((Eq (α := List Value) (iCells IntKind.i64 s'.4) z6) /\ ((Plain (iCells IntKind.i64 s'.4)) /\ ((Eq (α
  := List Value) (mC s'.8) z7) /\ ((Plain (mC s'.8)) /\ True))))))))))))))) (∃ g : GTr, let w1 := (List.take (List.length g.3.2 * 2) (List.drop 0 (gC enF g.3.2))); let w2 :=
  (List.take (List.length g.3.3 * 2) (List.drop 0 (gC enF g.3.3))); let w8 := (iCells IntKind.i64 (trS g.2 (GTr.s g) g.5).4); let w3 := (Row.mk w8 false (Ob.cells true));
  let w4 := (Row.mk (gC ndC (trS g.2 (GTr.s g) g.5).3) false (Ob.cells true)); let w5 := (Row.mk (mC (trS g.2 (GTr.s g) g.5).8) false (Ob.map true)); let w6 := (adNc (trS
  g.2 (GTr.s g) g.5).1 (trS g.2 (GTr.s g) g.5).2 (trS g.2 (GTr.s g) g.5).6 (trS g.2 (GTr.s g) g.5).7 (trS g.2 (GTr.s g) g.5).5 w4 w3 w5 g.3.1.1 g.3.1.2 g.3.1.3 g.3.1.4 (decF
  w1) g.3.1.5 g.3.1.6 (decF w2) g.3.1.7 g.3.1.8 g.3.1.9 g.3.1.10 g.4 g.5); let w7 := (adMc (trS g.2 (GTr.s g) g.5).1 (trS g.2 (GTr.s g) g.5).2 (trS g.2 (GTr.s g) g.5).6 (trS
  g.2 (GTr.s g) g.5).7 (trS g.2 (GTr.s g) g.5).5 w4 w3 w5 g.3.1.1 g.3.1.2 g.3.1.3 g.3.1.4 (decF w1) g.3.1.5 g.3.1.6 (decF w2) g.3.1.7 g.3.1.8 g.3.1.9 g.3.1.10 g.4 g.5);
  ((TrOk (GTr.s g) g.2 g.5) /\ ((0 = 0) /\ ((0 = 0) /\ ((g.4 = keyV a.1.2 a.1.3 a.1.4) /\ ((g.5 = cosR a.1.2 a.1.3 a.1.4 a.1.8 z1 z4) /\ ((g.1.1 = s.1) /\ ((g.1.2 = dsSiz
  s.1 s.2 s.6 s.7 s.5 (Row.mk (gC ndC s.3) false (Ob.cells true)) z2 (Row.mk (mC s.8) false (Ob.map true)) (keyV a.1.2 a.1.3 a.1.4) z1) /\ ((0 = 0) /\ ((List.length g.1.3 =
  List.length s.3) /\ ((0 = 0) /\ ((g.1.5 = dsFn s.1 s.2 s.6 s.7 s.5 (Row.mk (gC ndC s.3) false (Ob.cells true)) z2 (Row.mk (mC s.8) false (Ob.map true)) (keyV a.1.2 a.1.3
  a.1.4) z1) /\ ((g.1.6 = dsNw s.1 s.2 s.6 s.7 s.5 (Row.mk (gC ndC s.3) false (Ob.cells true)) z2 (Row.mk (mC s.8) false (Ob.map true)) (keyV a.1.2 a.1.3 a.1.4) z1) /\
  ((g.1.7 = dsOl s.1 s.2 s.6 s.7 s.5 (Row.mk (gC ndC s.3) false (Ob.cells true)) z2 (Row.mk (mC s.8) false (Ob.map true)) (keyV a.1.2 a.1.3 a.1.4) z1) /\ ((Eq (α := List
  Value) (gC enF g.3.2) (gC enF a.2)) /\ ((Plain (gC enF g.3.2)) /\ ((Eq (α := List Value) (gC enF g.3.3) (gC enF a.3)) /\ ((Plain (gC enF g.3.3)) /\ ((Eq (α := List Value)
  (gC ndC g.1.3) z5) /\ ((Plain (gC ndC g.1.3)) /\ ((Eq (α := List Value) (iCells IntKind.i64 g.1.4) z6) /\ ((Plain (iCells IntKind.i64 g.1.4)) /\ ((Eq (α := List Value) (mC
  g.1.8) z7) /\ ((Plain (mC g.1.8)) /\ ((g.3.1.1 = a.1.1) /\ ((g.3.1.2 = a.1.2) /\ ((g.3.1.3 = a.1.3) /\ ((g.3.1.4 = a.1.4) /\ ((0 = 0) /\ ((List.length g.3.2 = List.length
  a.2) /\ ((g.3.1.5 = a.1.5) /\ ((g.3.1.6 = a.1.6) /\ ((0 = 0) /\ ((List.length g.3.3 = List.length a.3) /\ ((g.3.1.7 = a.1.7) /\ ((g.3.1.8 = a.1.8) /\ ((g.3.1.9 = a.1.9) /\
  ((g.3.1.10 = a.1.10) /\ (∀ (y : Unit), ((True) → (((((True /\ (True /\ (True /\ (True /\ ((0 + List.length g.3.2 * 2 <= List.length (gC enF g.3.2) /\ Plain w1) /\ (True /\
  (True /\ ((0 + List.length g.3.3 * 2 <= List.length (gC enF g.3.3) /\ Plain w2) /\ (True /\ (True /\ (True /\ (True /\ True)))))))))))) /\ True) /\ ((True /\ (True /\
  True)) /\ ((Plain w1 /\ (Plain w2 /\ True)) /\ (IsF (Row.mk w1 true (Ob.cells true)) (List.length g.3.2) /\ (IsF (Row.mk w2 true (Ob.cells true)) (List.length g.3.3) /\
  (FOkR (Row.mk w1 true (Ob.cells true)) /\ FOkR (Row.mk w2 true (Ob.cells true))))))))) /\ ((((True /\ ((True /\ (True /\ (True /\ (True /\ (True /\ (True /\ (True /\ (True
  /\ (True /\ z8))))))))) /\ True)) /\ ((z8 /\ (Plain w1 /\ (Plain w2 /\ (Plain (gC ndC (trS g.2 (GTr.s g) g.5).3) /\ (Plain w8 /\ (Plain (mC (trS g.2 (GTr.s g) g.5).8) /\
  True)))))) /\ ((Plain w6 /\ (Plain w8 /\ (Plain w7 /\ True))) /\ (IsFo (Row.mk w1 false (Ob.cells true)) (List.length g.3.2) /\ (IsFo (Row.mk w2 false (Ob.cells true))
  (List.length g.3.3) /\ PAd (trS g.2 (GTr.s g) g.5).1 (trS g.2 (GTr.s g) g.5).2 (trS g.2 (GTr.s g) g.5).6 (trS g.2 (GTr.s g) g.5).7 (trS g.2 (GTr.s g) g.5).5 (List.length
  (trS g.2 (GTr.s g) g.5).3) w4 w3 w5 g.4 g.5)))))) /\ ((b = true) /\ ((s'.1 = (trS g.2 (GTr.s g) g.5).1) /\ ((s'.2 = adSiz (trS g.2 (GTr.s g) g.5).1 (trS g.2 (GTr.s g)
  g.5).2 (trS g.2 (GTr.s g) g.5).6 (trS g.2 (GTr.s g) g.5).7 (trS g.2 (GTr.s g) g.5).5 w4 w3 w5 g.3.1.1 g.3.1.2 g.3.1.3 g.3.1.4 (decF w1) g.3.1.5 g.3.1.6 (decF w2) g.3.1.7
  g.3.1.8 g.3.1.9 g.3.1.10 g.4 g.5) /\ ((0 = 0) /\ ((List.length s'.3 = adLn (trS g.2 (GTr.s g) g.5).5 (List.length (trS g.2 (GTr.s g) g.5).3)) /\ ((0 = 0) /\ ((s'.5 = (trS
  g.2 (GTr.s g) g.5).5 - 1) /\ ((s'.6 = adNw (trS g.2 (GTr.s g) g.5).1 (trS g.2 (GTr.s g) g.5).2 (trS g.2 (GTr.s g) g.5).6 (trS g.2 (GTr.s g) g.5).7 (trS g.2 (GTr.s g)
  g.5).5 w4 w3 w5 g.3.1.1 g.3.1.2 g.3.1.3 g.3.1.4 (decF w1) g.3.1.5 g.3.1.6 (decF w2) g.3.1.7 g.3.1.8 g.3.1.9 g.3.1.10 g.4 g.5) /\ ((s'.7 = adOl (trS g.2 (GTr.s g) g.5).1
  (trS g.2 (GTr.s g) g.5).2 (trS g.2 (GTr.s g) g.5).6 (trS g.2 (GTr.s g) g.5).7 (trS g.2 (GTr.s g) g.5).5 w4 w3 w5 g.3.1.1 g.3.1.2 g.3.1.3 g.3.1.4 (decF w1) g.3.1.5 g.3.1.6
  (decF w2) g.3.1.7 g.3.1.8 g.3.1.9 g.3.1.10 g.4 g.5) /\ ((Eq (α := List Value) (gC ndC s'.3) w6) /\ ((Plain (gC ndC s'.3)) /\ ((Eq (α := List Value) (iCells IntKind.i64
  s'.4) w8) /\ ((Plain (iCells IntKind.i64 s'.4)) /\ ((Eq (α := List Value) (mC s'.8) w7) /\ ((Plain (mC s'.8)) /\
  True))))))))))))))))))))))))))))))))))))))))))))))))))))))))))))) := by kernel_rfl
theorem rmS_len (s : SS) (i : Nat) : (rmS s i).nd.length = s.nd.length := rmN_len s i
theorem dr1_len (pr : Nd → Bool) (s : SS) (i : Int) : (dr1 pr s i).nd.length = s.nd.length ∧ (dr1 pr s i).bud = s.bud := by
  unfold dr1; split
  · exact ⟨rmS_len _ _, rfl⟩
  · exact ⟨rfl, rfl⟩
theorem drS_len (pr : Nd → Bool) : ∀ (l : List Int) (s : SS), (drS pr s l).nd.length = s.nd.length ∧ (drS pr s l).bud = s.bud
  | [], s => ⟨rfl, rfl⟩
  | i :: l, s => by
    obtain ⟨h1, h2⟩ := drS_len pr l (dr1 pr s i)
    obtain ⟨k1, k2⟩ := dr1_len pr s i
    exact ⟨h1.trans k1, h2.trans k2⟩
theorem trS_bud : ∀ (k : Nat) (s : SS) (c : Int), (trS k s c).bud = s.bud ∧ (trS k s c).nd.length = s.nd.length
  | 0, s, c => ⟨rfl, rfl⟩
  | k + 1, s, c => by
    unfold trS; split
    · obtain ⟨h1, h2⟩ := trS_bud k (rmS s s.ol.toNat) c
      exact ⟨h1, h2.trans (rmS_len _ _)⟩
    · exact ⟨rfl, rfl⟩
theorem lsQ_last (l : List Nat) (i : Nat) (p : Int) : lsQ (l ++ [i]) p = (i : Int) := by rw [lsQ_app]; rfl
theorem last_rm {s : SS} {ord : List Nat} (h : SInv s ord) (hz : Sz s ord) (hne : ord ≠ []) : ∃ l i, ord = l ++ [i] ∧ s.ol = ((i : Nat) : Int) ∧ SInv (rmS s i) l ∧ Sz (rmS s i) l ∧ PreRm s s.ol ∧ ∀ j ∈ l, same (gN (rmS s i).nd j) (gN s.nd j) := by
  obtain ⟨l, i, rfl⟩ : ∃ l i, ord = l ++ [i] := ⟨ord.dropLast, ord.getLast hne, (List.dropLast_concat_getLast hne).symm⟩
  have hi : i ∈ l ++ [i] := by simp
  have ho : s.ol = ((i : Nat) : Int) := by rw [h.ol, lsQ_last]
  have hf : (l ++ [i]).filter (fun j => decide (j ≠ i)) = l := by have := filter_out (l1 := l) (l2 := []) h.nod; simpa using this
  obtain ⟨h1, h2⟩ := SInv_rm h hi
  have h3 := sz_rm h hz hi
  rw [hf] at h1 h3
  refine ⟨l, i, rfl, ho, h1, h3, by rw [ho]; exact preRm_of h hz hi, fun j hj => h2 j (by simp [hj]) (fun e => ?_)⟩
  subst e
  exact (List.nodup_append.1 h.nod).2.2 j hj j (by simp) rfl
theorem trOk_step {s : SS} {k : Nat} {c : Int} (h : TrOk s k c) (hc : s.siz + c > s.bud) : ∃ k', k = k' + 1 ∧ TrOk (rmS s s.ol.toNat) k' c ∧ PreRm s s.ol := by
  obtain ⟨ord, h1, h2, h3, h4, h5, h6⟩ := h
  have hne : ord ≠ [] := by
    intro e
    subst e
    have := h1.siz
    simp at this
    omega
  obtain ⟨l, i, e1, e2, e3, e4, e5, _⟩ := last_rm h1 h2 hne
  have hl : ord.length = l.length + 1 := by rw [e1, List.length_append]; rfl
  refine ⟨k - 1, by omega, ?_, e5⟩
  rw [e2, Int.toNat_natCast]
  exact ⟨l, e3, e4, by omega, h4, h5, h6⟩
theorem ds_mk (s : SS) (K : ByteArray) (q : List Fl) (b : Bool) (o : Ob) :
    dsSiz s.bud s.siz s.nw s.ol s.fn ⟨gC ndC s.nd, false, .cells true⟩ ⟨iCells .i64 s.fr, false, .cells true⟩ ⟨mC s.m, false, .map true⟩ K ⟨gC enF q, b, o⟩ = (drS (prM q) s (mget s.m K)).siz ∧
    dsNw s.bud s.siz s.nw s.ol s.fn ⟨gC ndC s.nd, false, .cells true⟩ ⟨iCells .i64 s.fr, false, .cells true⟩ ⟨mC s.m, false, .map true⟩ K ⟨gC enF q, b, o⟩ = (drS (prM q) s (mget s.m K)).nw ∧
    dsOl s.bud s.siz s.nw s.ol s.fn ⟨gC ndC s.nd, false, .cells true⟩ ⟨iCells .i64 s.fr, false, .cells true⟩ ⟨mC s.m, false, .map true⟩ K ⟨gC enF q, b, o⟩ = (drS (prM q) s (mget s.m K)).ol ∧
    dsFn s.bud s.siz s.nw s.ol s.fn ⟨gC ndC s.nd, false, .cells true⟩ ⟨iCells .i64 s.fr, false, .cells true⟩ ⟨mC s.m, false, .map true⟩ K ⟨gC enF q, b, o⟩ = (drS (prM q) s (mget s.m K)).fn ∧
    dsNd s.bud s.siz s.nw s.ol s.fn ⟨gC ndC s.nd, false, .cells true⟩ ⟨iCells .i64 s.fr, false, .cells true⟩ ⟨mC s.m, false, .map true⟩ K ⟨gC enF q, b, o⟩ = gC ndC (drS (prM q) s (mget s.m K)).nd ∧
    dsFr s.bud s.siz s.nw s.ol s.fn ⟨gC ndC s.nd, false, .cells true⟩ ⟨iCells .i64 s.fr, false, .cells true⟩ ⟨mC s.m, false, .map true⟩ K ⟨gC enF q, b, o⟩ = iCells .i64 (drS (prM q) s (mget s.m K)).fr ∧
    dsMc s.bud s.siz s.nw s.ol s.fn ⟨gC ndC s.nd, false, .cells true⟩ ⟨iCells .i64 s.fr, false, .cells true⟩ ⟨mC s.m, false, .map true⟩ K ⟨gC enF q, b, o⟩ = mC (drS (prM q) s (mget s.m K)).m := by
  unfold dsSiz dsNw dsOl dsFn dsNd dsFr dsMc
  simp only [sealV_eq, sOf_mk, dMp_mk, decF_gC, and_self]
theorem pDr_mk (s : SS) (ord : List Nat) (h : SInv s ord) (hz : Sz s ord) : PDr s.bud s.siz s.nw s.ol s.fn s.nd.length ⟨gC ndC s.nd, false, .cells true⟩ ⟨iCells .i64 s.fr, false, .cells true⟩ ⟨mC s.m, false, .map true⟩ := ⟨s, ord, ⟨rfl, rfl, rfl, rfl, rfl, rfl, rfl, rfl, rfl⟩, h, hz⟩
theorem eDr_ok : EntOk Try.prog eDr := by
  intro a rows q v n' rl h hp
  unfold eDr at h
  simp only at h
  split at h
  · rename_i K F bud siz n fn nw ol qm qs qa qp n2 qk qst n3 qk2 qb q1 q2 r2 r3 r4 q5 q6
    cases hF : Nat.beq F 33 with
    | false => rw [hF] at h; simp at h
    | true =>
      rw [hF] at h
      have eF := Nat.eq_of_beq_eq_true hF
      subst eF
      simp only [cond_true, Option.some.injEq, Prod.mk.injEq] at h
      obtain ⟨rfl, rfl, rfl, rfl⟩ := h
      obtain ⟨⟨e, rfl, rfl⟩, ⟨r, rfl, rfl⟩, he, s, ord, ⟨rfl, rfl, rfl, rfl, rfl, rfl, rfl, rfl, rfl⟩, h1, h2⟩ := hp
      unfold gRo at he
      rw [fvR] at he
      have hc := Dr_con s ord h1 h2 K ⟨qm, qs, qa, qp, qk, qst, qk2, qb, q1, q2⟩ e r he
      unfold ssR ssC at hc
      obtain ⟨m1, m2, m3, m4, m5, m6, m7⟩ := ds_mk s K e true (.cells true)
      rw [(drS_len (prM e) (mget s.m K) s).1, (drS_len (prM e) (mget s.m K) s).2] at hc
      unfold gOwn iOwn mpR gRo at hc ⊢
      rw [m1, m2, m3, m4, m5, m6, m7]
      exact hc
  · simp at h
theorem tPu_ok : ∀ x ∈ tPu, EntOk Try.prog x := all_cons eKy_ok (all_cons eDr_ok (all_cons eCs_ok (all_cons eRm_ok (all_cons eCp_ok (all_cons eAo_ok all_nil)))))
theorem Tr_piece : PieceOk EPu 6 (10, pTr, specTr) := by
  refine piece_loop mixed (calls_envTd tPu_ok) (lok_envTd _ _ _) lm_none (n := 100) (by kernel_rfl) (fun g : GTr => (⟨g.s, g.k⟩ : STr)) (fun g t => TrOk t.s t.k g.c ∧ trS t.k t.s g.c = trS g.k g.s g.c) (fun g t => t.k) (sl := fun g _ => slTr g) (rl := fun g t => rwTr t.s g.a) (fun g hg => ⟨hg, rfl⟩) (fun g t hg hi => ?_)
  refine (Tr_round g t _ _).mpr ?_
  obtain ⟨s0, k0, a, K, c⟩ := g
  obtain ⟨s, k⟩ := t
  obtain ⟨h1, h2⟩ := hi
  simp only at h1 h2
  obtain ⟨m1, m2, m3, m4, m5, m6⟩ := rm_mk s s.ol
  simp only [ofNat_eq, toNat_cast, Nat.zero_add, Nat.add_zero, Nat.mul_one, List.drop_zero, bCells_len, bCells_drop, bCells_take, bCells_app, bCells_one, bCells_plain, List.length_replicate, List.length_append, List.length_take, List.length_drop, List.take_length, and_true, true_and, and_self, decide_true, List.length_nil, List.length_cons, Nat.sub_zero, dB_mk, dB_ro, List.take_zero, fPl, fLen, nPl, mC_plain, iCells_plain, iCells_len, m1, m2, m3, m4, m5, m6, true_and, and_true]
  have hs : IntKind.i64.wrap (s.siz + c) = s.siz + c := by
    obtain ⟨ord, q1, q2, q3, q4, q5, q6⟩ := h1
    have := sum_le (fun i => (gN s.nd i).cost) ord q2.cst
    have h3 := q1.cnt
    have h4 := q2.len
    rw [q1.siz]
    exact wr64_id (by unfold I64; omega)
  rw [hs]
  refine br_if (fun q => ?_) (fun q => ?_)
  · obtain ⟨k', rfl, k1, k2⟩ := trOk_step h1 q
    have hp := pRm_mk s s.ol k2
    simp only [hp, true_and]
    refine ⟨⟨rmS s s.ol.toNat, k'⟩, ⟨k1, ?_⟩, Nat.lt_succ_self _, rfl, rfl, rmS_len _ _, rfl, rfl, rfl, rfl, rfl, rfl⟩
    rw [← h2]
    show _ = trS (k' + 1) s c
    rw [trS, if_pos q]
  · have e : trS k s c = s := by
      cases k with
      | zero => rfl
      | succ k => rw [trS, if_neg q]
    rw [← h2, e]
    exact ⟨(), rfl, rfl, rfl, rfl, rfl, rfl, rfl, rfl, rfl⟩
theorem dr_inv {pr : Nd → Bool} (hpr : ∀ a b, same a b → pr a = pr b) : ∀ (l : List Int) (s : SS) (ord : List Nat), SInv s ord → Sz s ord → l.Nodup → (∀ x ∈ l, ∃ i ∈ ord, x = ((i : Nat) : Int)) →
    SInv (drS pr s l) (ord.filter fun i => !(decide (((i : Nat) : Int) ∈ l) && pr (gN s.nd i))) ∧ Sz (drS pr s l) (ord.filter fun i => !(decide (((i : Nat) : Int) ∈ l) && pr (gN s.nd i))) ∧ ∀ j ∈ ord.filter (fun i => !(decide (((i : Nat) : Int) ∈ l) && pr (gN s.nd i))), same (gN (drS pr s l).nd j) (gN s.nd j)
  | [], s, ord, h1, h2, _, _ => by
    have e : ord.filter (fun i => !(decide (((i : Nat) : Int) ∈ ([] : List Int)) && pr (gN s.nd i))) = ord := List.filter_eq_self.2 (fun a _ => by simp)
    rw [e]; exact ⟨h1, h2, fun j _ => same_refl _⟩
  | x :: l, s, ord, h1, h2, h3, h4 => by
    obtain ⟨k, hk, rfl⟩ := h4 x (by simp)
    have hn := List.nodup_cons.1 h3
    rw [show drS pr s (((k : Nat) : Int) :: l) = drS pr (dr1 pr s ((k : Nat) : Int)) l from rfl]
    by_cases hp : pr (gN s.nd k) = true
    · have e1 : dr1 pr s ((k : Nat) : Int) = rmS s k := by unfold dr1; rw [Int.toNat_natCast, if_pos hp]
      obtain ⟨r1, r2⟩ := SInv_rm h1 hk
      have r3 := sz_rm h1 h2 hk
      have hx : ∀ x ∈ l, ∃ i ∈ ord.filter (fun j => decide (j ≠ k)), x = ((i : Nat) : Int) := fun x hx => by
        obtain ⟨j, hj, rfl⟩ := h4 x (List.mem_cons_of_mem _ hx)
        exact ⟨j, List.mem_filter.2 ⟨hj, by simp; intro e; subst e; exact hn.1 hx⟩, rfl⟩
      obtain ⟨g1, g2, g3⟩ := dr_inv hpr l (rmS s k) _ r1 r3 hn.2 hx
      have ef : (ord.filter (fun j => decide (j ≠ k))).filter (fun i => !(decide (((i : Nat) : Int) ∈ l) && pr (gN (rmS s k).nd i))) = ord.filter (fun i => !(decide (((i : Nat) : Int) ∈ (((k : Nat) : Int) :: l)) && pr (gN s.nd i))) := by
        rw [List.filter_filter]
        apply List.filter_congr
        intro j hj
        by_cases hjk : j = k
        · subst hjk; simp [hp]
        · have hs := hpr _ _ (r2 j hj hjk)
          have hne : ¬ ((j : Int) = (k : Int)) := by omega
          simp [hs, hjk, hne]
      rw [e1]
      rw [ef] at g1 g2 g3
      refine ⟨g1, g2, fun j hj => ?_⟩
      have a1 := g3 j hj
      obtain ⟨q1, q2⟩ := List.mem_filter.1 hj
      have hjk : j ≠ k := by intro e; subst e; simp [hp] at q2
      have a2 := r2 j q1 hjk
      exact ⟨a1.1.trans a2.1, a1.2.1.trans a2.2.1, a1.2.2.1.trans a2.2.2.1, a1.2.2.2.1.trans a2.2.2.2.1, a1.2.2.2.2.trans a2.2.2.2.2⟩
    · have e1 : dr1 pr s ((k : Nat) : Int) = s := by unfold dr1; rw [Int.toNat_natCast, if_neg hp]
      obtain ⟨g1, g2, g3⟩ := dr_inv hpr l s ord h1 h2 hn.2 (fun x hx => h4 x (List.mem_cons_of_mem _ hx))
      have ef : ord.filter (fun i => !(decide (((i : Nat) : Int) ∈ l) && pr (gN s.nd i))) = ord.filter (fun i => !(decide (((i : Nat) : Int) ∈ (((k : Nat) : Int) :: l)) && pr (gN s.nd i))) := by
        apply List.filter_congr
        intro j hj
        by_cases hjk : j = k
        · subst hjk; simp [hp]
        · have hne : ¬ ((j : Int) = (k : Int)) := by omega
          simp [hne]
      rw [e1, ← ef]
      exact ⟨g1, g2, g3⟩
end Go.Proofs.Ytcjbpmphkmcmjaa.so
