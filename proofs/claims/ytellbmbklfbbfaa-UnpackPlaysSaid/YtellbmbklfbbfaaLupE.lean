/- A block's reader: the loop over its items. -/
import Derived.Test.YtellbmbklfbbfaaSz9
import Derived.Test.YtellbmbklfbbfaaRows
import Derived.Test.YtellbmbklfbbfaaLupD
set_option maxRecDepth 20000
set_option linter.unusedSimpArgs false
set_option linter.unusedVariables false
namespace Go.Proofs.Ytellbmbklfbbfaa.up
open Go Go.Ev Go.Sy Go.RowKit Go.Proofs.Ytellbmbklfbbfaa.gl Go.Proofs.Ytellbmbklfbbfaa.tk Go.Proofs.Ytellbmbklfbbfaa.hf Go.Proofs.Ytellbmbklfbbfaa.s3 Go.Proofs.Ytellbmbklfbbfaa.tb
structure St where
  i : Nat
  W : List Wr
  sum : Int
  sz : Int
  t : Tb
structure Out where
  e : Nat
  s : St
structure Cx where
  top : Int
  list : Int
  b : List UInt8
def rowO (x : Cx) (s : St) (f : Fl) (h : Int) : Out := ⟨if x.list < roS s.sum f then 2 else 0, ⟨s.i, roW x.list s.sum s.W f h, roS s.sum f, s.sz, s.t⟩⟩
noncomputable def stIx (x : Cx) (s : St) : Out :=
  if (nuR x.b s.i 7).e ≠ 0 then ⟨(nuR x.b s.i 7).e, s⟩
  else if (getF s.t.l ((nuR x.b s.i 7).v : Nat)).2 = false then ⟨5, ⟨(nuR x.b s.i 7).p, s.W, s.sum, s.sz, s.t⟩⟩
  else rowO x ⟨(nuR x.b s.i 7).p, s.W, s.sum, s.sz, s.t⟩ (getF s.t.l ((nuR x.b s.i 7).v : Nat)).1 1
noncomputable def stAd (x : Cx) (s : St) : Out :=
  if (liR s.t.l x.b s.i 6).e ≠ 0 then ⟨(liR s.t.l x.b s.i 6).e, ⟨(liR s.t.l x.b s.i 6).p, s.W, s.sum, s.sz, s.t⟩⟩
  else rowO x ⟨(liR s.t.l x.b s.i 6).p, s.W, s.sum, s.sz, addT s.t (liR s.t.l x.b s.i 6).v⟩ (liR s.t.l x.b s.i 6).v 1
noncomputable def stLi (x : Cx) (s : St) (h : Int) : Out :=
  if (liR s.t.l x.b s.i 4).e ≠ 0 then ⟨(liR s.t.l x.b s.i 4).e, ⟨(liR s.t.l x.b s.i 4).p, s.W, s.sum, s.sz, s.t⟩⟩
  else rowO x ⟨(liR s.t.l x.b s.i 4).p, s.W, s.sum, s.sz, s.t⟩ (liR s.t.l x.b s.i 4).v h
noncomputable def stSi (x : Cx) (s : St) : Out := ⟨(siR x.b s.i s.W.length s.sz x.top).e, ⟨(siR x.b s.i s.W.length s.sz x.top).p, s.W, s.sum, siZ x.b s.i s.W.length s.sz x.top, siT x.b s.i s.W.length s.sz x.top s.t⟩⟩
noncomputable def step (x : Cx) (s : St) : Out :=
  if 128 ≤ atB x.b s.i then stIx x s else if 64 ≤ atB x.b s.i then stAd x s else if 32 ≤ atB x.b s.i then stSi x s else if 16 ≤ atB x.b s.i then stLi x s 3 else stLi x s 2
noncomputable def runO (x : Cx) : Nat → St → Out
  | 0, s => ⟨0, s⟩
  | k + 1, s => if x.b.length ≤ s.i then ⟨0, s⟩ else if (step x s).e ≠ 0 then step x s else runO x k (step x s).s
def st0 (t : Tb) : St := ⟨0, [], 0, 0, t⟩
structure GB where
  x : Cx
  bad : Bool
  t : Tb
noncomputable def finO : GB → Out := sealV fun g => runO g.x g.x.b.length (st0 g.t)
noncomputable def rlS (g : GB) (s : St) : List (Nat × Row) := [(0, rd0 g.x.b.length (s.i : Nat) s.W.length s.sum s.sz 5), (1, rd1 g.x.top g.x.list g.bad 3), (2, bRo g.x.b), (3, rd4 s.t.l.length (smZ s.t.l s.t.l.length : Nat) s.t.most 6), (5, gOwn enW s.W), (6, gOwn enF (s.t.l ++ s.t.j))]
def slS (_ : GB) (_ : St) : List (Nat × Value) := [(0, .pointer (some ⟨0, 0, none⟩))]
noncomputable def wsL (g : GB) : List (Gate Unit) := [⟨.exit 0, fun _ => (finO g).e = 0, fun _ => [], fun _ => rlS g (finO g).s, 7⟩, ⟨.panic [], fun _ => (finO g).e ≠ 0, fun _ => [(66, .agg ⟨[.int .i64 ((finO g).e : Nat), .int .i64 ((finO g).s.i : Nat)]⟩)], fun _ => rlS g (finO g).s, 7⟩]
def preB (g : GB) : Prop := g.x.b.length ≤ 1048576 ∧ g.x.top ≤ 65536 ∧ 0 ≤ g.x.list ∧ g.x.list ≤ 2147483647 ∧ Ok g.t ∧ g.t.most ≤ g.x.top
noncomputable def specL : Sy.Spec := specOf 5 7 66 preB (fun g => slS g (st0 g.t)) (fun g => rlS g (st0 g.t)) wsL
noncomputable def mL := mOf [(21, [0], specL)]
noncomputable def tL : List EntM := [eNu, eLi, eRo, eSi, eGetT, eAddT]
noncomputable abbrev EtL : Env := envT Try.prog tL
theorem L_round (g : GB) (s : St) (Inv : St → Prop) (m : St → Nat) : mev EtL noM 60 21 (0 :: [0]) false (codeOf Try.prog 21 (0 :: [0])) ⟨mkOv (slS g s), 66, []⟩ none ⟨mkR (rlS g s), 7⟩ (roundK 5 7 66 Inv m (slS g) (rlS g) (wsL g) s) =
  let z1 := (Row.mk (List.take (List.length g.1.3 * 1) (List.drop 0 (bCells g.1.3))) true (Ob.cells true)); let z2 := (Row.mk (gC enF (s.5.1 ++ s.5.2)) false (Ob.cells
  true)); let z11 := (Eq (α := List Value) (bCells g.1.3) (bCells g.1.3)); let z27 := (List.length (finO g).2.5.1 = List.length s.5.1); let z16 := (↑(smZ (finO g).2.5.1
  (List.length (finO g).2.5.1)) : Int); let z28 := (z16 = (↑(smZ s.5.1 (List.length s.5.1)) : Int)); let z34 := ((Plain (gC enF ((finO g).2.5.1 ++ (finO g).2.5.2))) /\
  True); let z12 := ((Plain (gC enW (finO g).2.2)) /\ ((Eq (α := List Value) (gC enF ((finO g).2.5.1 ++ (finO g).2.5.2)) (gC enF (s.5.1 ++ s.5.2))) /\ z34)); let z3 := ((0 =
  0) /\ ((List.length (finO g).2.2 = List.length s.2) /\ (((finO g).2.3 = s.3) /\ (((finO g).2.4 = s.4) /\ ((0 = 0) /\ ((g.1.1 = g.1.1) /\ ((g.1.2 = g.1.2) /\ ((g.2 = g.2)
  /\ (z11 /\ ((Plain (bCells g.1.3)) /\ ((0 = 0) /\ (z27 /\ (z28 /\ (((finO g).2.5.3 = s.5.3) /\ ((Eq (α := List Value) (gC enW (finO g).2.2) (gC enW s.2)) /\
  z12))))))))))))))); let z31 := ((True /\ (True /\ (True /\ True))) /\ (Plain (gC enF (s.5.1 ++ s.5.2)) /\ True)); let z4 := ((True /\ ((0 + List.length g.1.3 * 1 <=
  List.length (bCells g.1.3) /\ Plain (List.take (List.length g.1.3 * 1) (List.drop 0 (bCells g.1.3)))) /\ (True /\ (True /\ (True /\ (True /\ True)))))) /\ ((True /\ (True
  /\ (True /\ (True /\ True)))) /\ (True /\ (Plain (gC enW s.2) /\ z31)))); let z5 := (liX z2 (List.length s.5.1) z1 (↑s.1 : Int) (6 : Int)); let z6 := (liY z2 (List.length
  s.5.1) z1 (↑s.1 : Int) (6 : Int)); let z7 := (liX z2 (List.length s.5.1) z1 (↑s.1 : Int) (4 : Int)); let z8 := (liY z2 (List.length s.5.1) z1 (↑s.1 : Int) (4 : Int)); let
  z9 := (gfA z2 (List.length s.5.1) (nuV z1 (↑s.1 : Int) (7 : Int))); let z10 := (gfB z2 (List.length s.5.1) (nuV z1 (↑s.1 : Int) (7 : Int))); let z30 := ((↑(finO g).2.1 :
  Int) = liA z2 (List.length s.5.1) z1 (↑s.1 : Int) (4 : Int)); let z13 := (((finO g).1 ≠ 0) /\ (((66 = 66 /\ ((↑(finO g).1 : Int) = liE z2 (List.length s.5.1) z1 (↑s.1 :
  Int) (4 : Int) /\ (↑(finO g).2.1 : Int) = liA z2 (List.length s.5.1) z1 (↑s.1 : Int) (4 : Int)))) /\ ((0 = 0) /\ ((0 = 0) /\ ((List.length g.1.3 = List.length g.1.3) /\
  (z30 /\ z3)))))); let z14 := (IsBm z1 (List.length g.1.3) /\ IsWm (Row.mk (gC enW s.2) false (Ob.cells true)) (List.length s.2)); let z33 := (Plain (gC enW s.2) /\ (Plain
  (gC enF (s.5.1 ++ s.5.2)) /\ True)); let z15 := (((True /\ (True /\ True)) /\ (z4 /\ (z33 /\ ((IsAt z1 (List.length g.1.3) (↑s.1 : Int) /\ IsN (4 : Int)) /\ (IsWs (Row.mk
  (gC enW s.2) false (Ob.cells true)) (List.length s.2) /\ IsTl z2 (List.length s.5.1))))))); let z35 := (cellI (bCells g.1.3) (0 + Int.toNat (↑s.1 : Int) * 1)); let z17 :=
  (Eq (α := Option Value) ((bCells g.1.3)[0 + Int.toNat (↑s.1 : Int) * 1]?) (some (Value.int IntKind.u8 z35))); let z18 := (siC z2 (List.length s.5.1) s.5.3 z1 (↑s.1 : Int)
  (List.length s.2) s.4 g.1.1); let z19 := (roC (Row.mk (gC enW s.2) false (Ob.cells true)) g.1.2 s.3 z9 z10 (1 : Int)); let z20 := (roC (Row.mk (gC enW s.2) false (Ob.cells
  true)) g.1.2 s.3 z5 z6 (1 : Int)); let z21 := (roC (Row.mk (gC enW s.2) false (Ob.cells true)) g.1.2 s.3 z7 z8 (3 : Int)); let z22 := (roC (Row.mk (gC enW s.2) false
  (Ob.cells true)) g.1.2 s.3 z7 z8 (2 : Int)); let z23 := (True /\ ((True /\ (True /\ True)) /\ (True /\ True))); let z24 := ((0 = 0) /\ ((0 = 0) /\ ((List.length g.1.3 =
  List.length g.1.3) /\ (((↑(finO g).2.1 : Int) = nuA z1 (↑s.1 : Int) (7 : Int)) /\ z3)))); let z25 := ((66 = 66 /\ ((↑(finO g).1 : Int) = (2 : Int) /\ (↑(finO g).2.1 : Int)
  = liA z2 (List.length s.5.1) z1 (↑s.1 : Int) (4 : Int)))); let z26 := (Value.slice (some (Addr.mk 2 0 none)) (List.length g.1.3) 1 = Value.slice (some (Addr.mk 2 0 none))
  (List.length g.1.3) 1); let z29 := ((↑(finO g).2.1 : Int) = liA z2 (List.length s.5.1) z1 (↑s.1 : Int) (6 : Int)); let z32 := (Value.int IntKind.i64 (↑s.1 : Int) =
  Value.int IntKind.i64 (↑s.1 : Int)); let z36 := (Plain (adC z2 (List.length s.5.1) s.5.3 z5 z6) /\ True); let z37 := (liB z2 (List.length s.5.1) z1 (↑s.1 : Int) (4 :
  Int)); let z38 := (Array.mk [Value.string z5, Value.string z6]); (z32 /\ (z26 /\ (br (decide ((↑s.1 : Int) < Int.ofNat (List.length g.1.3))) (br (decide ((0 : Int) <=
  (↑s.1 : Int) /\ (↑s.1 : Int) < (↑(List.length g.1.3) : Int))) (z17 /\ (z26 /\ (z32 /\ (z17 /\ ((Value.int IntKind.u8 z35 = Value.int IntKind.u8 z35) /\ (br (decide (cellI
  (bCells g.1.3) (0 + Int.toNat (↑s.1 : Int) * 1) ≥ (128 : Int))) ((((True /\ (True /\ True)) /\ (z4 /\ (z33 /\ ((IsAt z1 (List.length g.1.3) (↑s.1 : Int) /\ IsN (7 : Int))
  /\ (IsWs (Row.mk (gC enW s.2) false (Ob.cells true)) (List.length s.2) /\ IsFs z2)))))) /\ (br (nuB z1 (↑s.1 : Int) (7 : Int)) ((((True /\ (True /\ True)) /\ (z31 /\
  ((Plain (gC enF (s.5.1 ++ s.5.2)) /\ True) /\ (IsTg z2 (List.length s.5.1) /\ I64 (nuV z1 (↑s.1 : Int) (7 : Int))))))) /\ (br (!gfK z2 (List.length s.5.1) (nuV z1 (↑s.1 :
  Int) (7 : Int))) (∃ y : Unit, (((finO g).1 ≠ 0) /\ (((66 = 66 /\ ((↑(finO g).1 : Int) = (5 : Int) /\ (↑(finO g).2.1 : Int) = nuA z1 (↑s.1 : Int) (7 : Int)))) /\ z24)))
  (((z23 /\ (z4 /\ ((Plain (gC enF (s.5.1 ++ s.5.2)) /\ (Plain z19 /\ True)) /\ (z14 /\ (IsFs z2 /\ FitS s.3 z9 z10)))))) /\ (br (roB g.1.2 s.3 z9 z10) (∃ j : St, ((Inv j)
  /\ ((m j < m s) /\ ((0 = 0) /\ ((0 = 0) /\ ((0 = 0) /\ ((List.length g.1.3 = List.length g.1.3) /\ (((↑j.1 : Int) = nuA z1 (↑s.1 : Int) (7 : Int)) /\ ((0 = 0) /\
  ((List.length j.2 = roN (Row.mk (gC enW s.2) false (Ob.cells true)) g.1.2 s.3 z9 z10 (1 : Int)) /\ ((j.3 = roZ s.3 z9 z10) /\ ((j.4 = s.4) /\ ((0 = 0) /\ ((g.1.1 = g.1.1)
  /\ ((g.1.2 = g.1.2) /\ ((g.2 = g.2) /\ (z11 /\ ((Plain (bCells g.1.3)) /\ ((0 = 0) /\ ((List.length j.5.1 = List.length s.5.1) /\ (((↑(smZ j.5.1 (List.length j.5.1)) :
  Int) = (↑(smZ s.5.1 (List.length s.5.1)) : Int)) /\ ((j.5.3 = s.5.3) /\ ((Eq (α := List Value) (gC enW j.2) z19) /\ ((Plain (gC enW j.2)) /\ ((Eq (α := List Value) (gC enF
  (j.5.1 ++ j.5.2)) (gC enF (s.5.1 ++ s.5.2))) /\ ((Plain (gC enF (j.5.1 ++ j.5.2))) /\ True)))))))))))))))))))))))))) (∃ y : Unit, (((finO g).1 ≠ 0) /\ (((66 = 66 /\
  ((↑(finO g).1 : Int) = (2 : Int) /\ (↑(finO g).2.1 : Int) = nuA z1 (↑s.1 : Int) (7 : Int)))) /\ ((0 = 0) /\ ((0 = 0) /\ ((List.length g.1.3 = List.length g.1.3) /\
  (((↑(finO g).2.1 : Int) = nuA z1 (↑s.1 : Int) (7 : Int)) /\ ((0 = 0) /\ ((List.length (finO g).2.2 = roN (Row.mk (gC enW s.2) false (Ob.cells true)) g.1.2 s.3 z9 z10 (1 :
  Int)) /\ (((finO g).2.3 = roZ s.3 z9 z10) /\ (((finO g).2.4 = s.4) /\ ((0 = 0) /\ ((g.1.1 = g.1.1) /\ ((g.1.2 = g.1.2) /\ ((g.2 = g.2) /\ (z11 /\ ((Plain (bCells g.1.3))
  /\ ((0 = 0) /\ (z27 /\ (z28 /\ (((finO g).2.5.3 = s.5.3) /\ ((Eq (α := List Value) (gC enW (finO g).2.2) z19) /\ z12)))))))))))))))))))))))))) (∃ y : Unit, (((finO g).1 ≠
  0) /\ (((66 = 66 /\ ((↑(finO g).1 : Int) = nuE z1 (↑s.1 : Int) (7 : Int) /\ (↑(finO g).2.1 : Int) = (↑s.1 : Int)))) /\ z24))))) (br (decide (cellI (bCells g.1.3) (0 +
  Int.toNat (↑s.1 : Int) * 1) ≥ (64 : Int))) ((((True /\ (True /\ True)) /\ (z4 /\ (z33 /\ ((IsAt z1 (List.length g.1.3) (↑s.1 : Int) /\ IsN (6 : Int)) /\ (IsWs (Row.mk (gC
  enW s.2) false (Ob.cells true)) (List.length s.2) /\ IsTl z2 (List.length s.5.1))))))) /\ (br (liB z2 (List.length s.5.1) z1 (↑s.1 : Int) (6 : Int)) ((((True /\ ((True /\
  (True /\ True)) /\ True)) /\ (z31 /\ (z36 /\ (IsTb z2 (List.length s.5.1) (↑(smZ s.5.1 (List.length s.5.1)) : Int) /\ (fbZ z5 z6 <= 100000000 /\ ((0 : Int) <= s.5.3 /\
  s.5.3 <= (100000000 : Int)))))))) /\ ((Value.pointer (some (Addr.mk 1 0 none)) = Value.pointer (some (Addr.mk 1 0 none))) /\ ((Value.pointer (some (Addr.mk 3 0 none)) =
  Value.pointer (some (Addr.mk 3 0 none))) /\ ((Value.agg z38 = Value.agg z38) /\ (((z23 /\ (((True /\ ((0 + List.length g.1.3 * 1 <= List.length (bCells g.1.3) /\ Plain
  (List.take (List.length g.1.3 * 1) (List.drop 0 (bCells g.1.3)))) /\ (True /\ (True /\ (True /\ (True /\ True)))))) /\ ((True /\ (True /\ (True /\ (True /\ True)))) /\
  (True /\ (Plain (gC enW s.2) /\ ((True /\ (True /\ (True /\ True))) /\ z36))))) /\ ((Plain (adC z2 (List.length s.5.1) s.5.3 z5 z6) /\ (Plain z20 /\ True)) /\ (z14 /\
  (IsFs (Row.mk (adC z2 (List.length s.5.1) s.5.3 z5 z6) false (Ob.cells true)) /\ FitS s.3 z5 z6)))))) /\ (br (roB g.1.2 s.3 z5 z6) (∃ j : St, ((Inv j) /\ ((m j < m s) /\
  ((0 = 0) /\ ((0 = 0) /\ ((0 = 0) /\ ((List.length g.1.3 = List.length g.1.3) /\ (((↑j.1 : Int) = liA z2 (List.length s.5.1) z1 (↑s.1 : Int) (6 : Int)) /\ ((0 = 0) /\
  ((List.length j.2 = roN (Row.mk (gC enW s.2) false (Ob.cells true)) g.1.2 s.3 z5 z6 (1 : Int)) /\ ((j.3 = roZ s.3 z5 z6) /\ ((j.4 = s.4) /\ ((0 = 0) /\ ((g.1.1 = g.1.1) /\
  ((g.1.2 = g.1.2) /\ ((g.2 = g.2) /\ (z11 /\ ((Plain (bCells g.1.3)) /\ ((0 = 0) /\ ((List.length j.5.1 = adN z2 (List.length s.5.1) s.5.3 z5 z6) /\ (((↑(smZ j.5.1
  (List.length j.5.1)) : Int) = adS z2 (List.length s.5.1) s.5.3 z5 z6) /\ ((j.5.3 = s.5.3) /\ ((Eq (α := List Value) (gC enW j.2) z20) /\ ((Plain (gC enW j.2)) /\ ((Eq (α
  := List Value) (gC enF (j.5.1 ++ j.5.2)) (adC z2 (List.length s.5.1) s.5.3 z5 z6)) /\ ((Plain (gC enF (j.5.1 ++ j.5.2))) /\ True)))))))))))))))))))))))))) (∃ y : Unit,
  (((finO g).1 ≠ 0) /\ (((66 = 66 /\ ((↑(finO g).1 : Int) = (2 : Int) /\ (↑(finO g).2.1 : Int) = liA z2 (List.length s.5.1) z1 (↑s.1 : Int) (6 : Int)))) /\ ((0 = 0) /\ ((0 =
  0) /\ ((List.length g.1.3 = List.length g.1.3) /\ (z29 /\ ((0 = 0) /\ ((List.length (finO g).2.2 = roN (Row.mk (gC enW s.2) false (Ob.cells true)) g.1.2 s.3 z5 z6 (1 :
  Int)) /\ (((finO g).2.3 = roZ s.3 z5 z6) /\ (((finO g).2.4 = s.4) /\ ((0 = 0) /\ ((g.1.1 = g.1.1) /\ ((g.1.2 = g.1.2) /\ ((g.2 = g.2) /\ (z11 /\ ((Plain (bCells g.1.3)) /\
  ((0 = 0) /\ ((List.length (finO g).2.5.1 = adN z2 (List.length s.5.1) s.5.3 z5 z6) /\ ((z16 = adS z2 (List.length s.5.1) s.5.3 z5 z6) /\ (((finO g).2.5.3 = s.5.3) /\ ((Eq
  (α := List Value) (gC enW (finO g).2.2) z20) /\ ((Plain (gC enW (finO g).2.2)) /\ ((Eq (α := List Value) (gC enF ((finO g).2.5.1 ++ (finO g).2.5.2)) (adC z2 (List.length
  s.5.1) s.5.3 z5 z6)) /\ z34)))))))))))))))))))))))))))))) (∃ y : Unit, (((finO g).1 ≠ 0) /\ (((66 = 66 /\ ((↑(finO g).1 : Int) = liE z2 (List.length s.5.1) z1 (↑s.1 : Int)
  (6 : Int) /\ (↑(finO g).2.1 : Int) = liA z2 (List.length s.5.1) z1 (↑s.1 : Int) (6 : Int)))) /\ ((0 = 0) /\ ((0 = 0) /\ ((List.length g.1.3 = List.length g.1.3) /\ (z29 /\
  z3))))))))) (br (decide (cellI (bCells g.1.3) (0 + Int.toNat (↑s.1 : Int) * 1) ≥ (32 : Int))) ((((True /\ True) /\ (z4 /\ ((Plain (gC enW s.2) /\ (Plain z18 /\ True)) /\
  ((IsAt z1 (List.length g.1.3) (↑s.1 : Int) /\ IsWs (Row.mk (gC enW s.2) false (Ob.cells true)) (List.length s.2)) /\ (IsTs z2 (List.length s.5.1) (↑(smZ s.5.1 (List.length
  s.5.1)) : Int) s.5.3 /\ SzP s.4 g.1.1)))))) /\ (br (siB z1 (↑s.1 : Int) (List.length s.2) s.4 g.1.1) (∃ j : St, ((Inv j) /\ ((m j < m s) /\ ((0 = 0) /\ ((0 = 0) /\ ((0 =
  0) /\ ((List.length g.1.3 = List.length g.1.3) /\ (((↑j.1 : Int) = siA z1 (↑s.1 : Int) (List.length s.2) s.4 g.1.1) /\ ((0 = 0) /\ ((List.length j.2 = List.length s.2) /\
  ((j.3 = s.3) /\ ((j.4 = siW z1 (↑s.1 : Int) (List.length s.2) s.4 g.1.1) /\ ((0 = 0) /\ ((g.1.1 = g.1.1) /\ ((g.1.2 = g.1.2) /\ ((g.2 = g.2) /\ (z11 /\ ((Plain (bCells
  g.1.3)) /\ ((0 = 0) /\ ((List.length j.5.1 = siN z2 (List.length s.5.1) s.5.3 z1 (↑s.1 : Int) (List.length s.2) s.4 g.1.1) /\ (((↑(smZ j.5.1 (List.length j.5.1)) : Int) =
  siS z2 (List.length s.5.1) s.5.3 z1 (↑s.1 : Int) (List.length s.2) s.4 g.1.1) /\ ((j.5.3 = siM z2 (List.length s.5.1) s.5.3 z1 (↑s.1 : Int) (List.length s.2) s.4 g.1.1) /\
  ((Eq (α := List Value) (gC enW j.2) (gC enW s.2)) /\ ((Plain (gC enW j.2)) /\ ((Eq (α := List Value) (gC enF (j.5.1 ++ j.5.2)) z18) /\ ((Plain (gC enF (j.5.1 ++ j.5.2)))
  /\ True)))))))))))))))))))))))))) (∃ y : Unit, (((finO g).1 ≠ 0) /\ (((66 = 66 /\ ((↑(finO g).1 : Int) = siE z1 (↑s.1 : Int) (List.length s.2) s.4 g.1.1 /\ (↑(finO g).2.1
  : Int) = siA z1 (↑s.1 : Int) (List.length s.2) s.4 g.1.1))) /\ ((0 = 0) /\ ((0 = 0) /\ ((List.length g.1.3 = List.length g.1.3) /\ (((↑(finO g).2.1 : Int) = siA z1 (↑s.1 :
  Int) (List.length s.2) s.4 g.1.1) /\ ((0 = 0) /\ ((List.length (finO g).2.2 = List.length s.2) /\ (((finO g).2.3 = s.3) /\ (((finO g).2.4 = siW z1 (↑s.1 : Int)
  (List.length s.2) s.4 g.1.1) /\ ((0 = 0) /\ ((g.1.1 = g.1.1) /\ ((g.1.2 = g.1.2) /\ ((g.2 = g.2) /\ (z11 /\ ((Plain (bCells g.1.3)) /\ ((0 = 0) /\ ((List.length (finO
  g).2.5.1 = siN z2 (List.length s.5.1) s.5.3 z1 (↑s.1 : Int) (List.length s.2) s.4 g.1.1) /\ ((z16 = siS z2 (List.length s.5.1) s.5.3 z1 (↑s.1 : Int) (List.length s.2) s.4
  g.1.1) /\ (((finO g).2.5.3 = siM z2 (List.length s.5.1) s.5.3 z1 (↑s.1 : Int) (List.length s.2) s.4 g.1.1) /\ ((Eq (α := List Value) (gC enW (finO g).2.2) (gC enW s.2)) /\
  ((Plain (gC enW (finO g).2.2)) /\ ((Eq (α := List Value) (gC enF ((finO g).2.5.1 ++ (finO g).2.5.2)) z18) /\ z34)))))))))))))))))))))))))) (br (decide (cellI (bCells
  g.1.3) (0 + Int.toNat (↑s.1 : Int) * 1) ≥ (16 : Int))) (z15 /\ (br z37 (((z23 /\ (z4 /\ ((Plain (gC enF (s.5.1 ++ s.5.2)) /\ (Plain z21 /\ True)) /\ (z14 /\ (IsFs z2 /\
  FitS s.3 z7 z8)))))) /\ (br (roB g.1.2 s.3 z7 z8) (∃ j : St, ((Inv j) /\ ((m j < m s) /\ ((0 = 0) /\ ((0 = 0) /\ ((0 = 0) /\ ((List.length g.1.3 = List.length g.1.3) /\
  (((↑j.1 : Int) = liA z2 (List.length s.5.1) z1 (↑s.1 : Int) (4 : Int)) /\ ((0 = 0) /\ ((List.length j.2 = roN (Row.mk (gC enW s.2) false (Ob.cells true)) g.1.2 s.3 z7 z8
  (3 : Int)) /\ ((j.3 = roZ s.3 z7 z8) /\ ((j.4 = s.4) /\ ((0 = 0) /\ ((g.1.1 = g.1.1) /\ ((g.1.2 = g.1.2) /\ ((g.2 = g.2) /\ (z11 /\ ((Plain (bCells g.1.3)) /\ ((0 = 0) /\
  ((List.length j.5.1 = List.length s.5.1) /\ (((↑(smZ j.5.1 (List.length j.5.1)) : Int) = (↑(smZ s.5.1 (List.length s.5.1)) : Int)) /\ ((j.5.3 = s.5.3) /\ ((Eq (α := List
  Value) (gC enW j.2) z21) /\ ((Plain (gC enW j.2)) /\ ((Eq (α := List Value) (gC enF (j.5.1 ++ j.5.2)) (gC enF (s.5.1 ++ s.5.2))) /\ ((Plain (gC enF (j.5.1 ++ j.5.2))) /\
  True)))))))))))))))))))))))))) (∃ y : Unit, (((finO g).1 ≠ 0) /\ (z25 /\ ((0 = 0) /\ ((0 = 0) /\ ((List.length g.1.3 = List.length g.1.3) /\ (z30 /\ ((0 = 0) /\
  ((List.length (finO g).2.2 = roN (Row.mk (gC enW s.2) false (Ob.cells true)) g.1.2 s.3 z7 z8 (3 : Int)) /\ (((finO g).2.3 = roZ s.3 z7 z8) /\ (((finO g).2.4 = s.4) /\ ((0
  = 0) /\ ((g.1.1 = g.1.1) /\ ((g.1.2 = g.1.2) /\ ((g.2 = g.2) /\ (z11 /\ ((Plain (bCells g.1.3)) /\ ((0 = 0) /\ (z27 /\ (z28 /\ (((finO g).2.5.3 = s.5.3) /\ ((Eq (α := List
  Value) (gC enW (finO g).2.2) z21) /\ z12)))))))))))))))))))))))) (∃ y : Unit, z13))) (z15 /\ (br z37 (((z23 /\ (z4 /\ ((Plain (gC enF (s.5.1 ++ s.5.2)) /\ (Plain z22 /\
  True)) /\ (z14 /\ (IsFs z2 /\ FitS s.3 z7 z8)))))) /\ (br (roB g.1.2 s.3 z7 z8) (∃ j : St, ((Inv j) /\ ((m j < m s) /\ ((0 = 0) /\ ((0 = 0) /\ ((0 = 0) /\ ((List.length
  g.1.3 = List.length g.1.3) /\ (((↑j.1 : Int) = liA z2 (List.length s.5.1) z1 (↑s.1 : Int) (4 : Int)) /\ ((0 = 0) /\ ((List.length j.2 = roN (Row.mk (gC enW s.2) false
  (Ob.cells true)) g.1.2 s.3 z7 z8 (2 : Int)) /\ ((j.3 = roZ s.3 z7 z8) /\ ((j.4 = s.4) /\ ((0 = 0) /\ ((g.1.1 = g.1.1) /\ ((g.1.2 = g.1.2) /\ ((g.2 = g.2) /\ (z11 /\
  ((Plain (bCells g.1.3)) /\ ((0 = 0) /\ ((List.length j.5.1 = List.length s.5.1) /\ (((↑(smZ j.5.1 (List.length j.5.1)) : Int) = (↑(smZ s.5.1 (List.length s.5.1)) : Int))
  /\ ((j.5.3 = s.5.3) /\ ((Eq (α := List Value) (gC enW j.2) z22) /\ ((Plain (gC enW j.2)) /\ ((Eq (α := List Value) (gC enF (j.5.1 ++ j.5.2)) (gC enF (s.5.1 ++ s.5.2))) /\
  ((Plain (gC enF (j.5.1 ++ j.5.2))) /\ True)))))))))))))))))))))))))) (∃ y : Unit, (((finO g).1 ≠ 0) /\ (z25 /\ ((0 = 0) /\ ((0 = 0) /\ ((List.length g.1.3 = List.length
  g.1.3) /\ (z30 /\ ((0 = 0) /\ ((List.length (finO g).2.2 = roN (Row.mk (gC enW s.2) false (Ob.cells true)) g.1.2 s.3 z7 z8 (2 : Int)) /\ (((finO g).2.3 = roZ s.3 z7 z8) /\
  (((finO g).2.4 = s.4) /\ ((0 = 0) /\ ((g.1.1 = g.1.1) /\ ((g.1.2 = g.1.2) /\ ((g.2 = g.2) /\ (z11 /\ ((Plain (bCells g.1.3)) /\ ((0 = 0) /\ (z27 /\ (z28 /\ (((finO
  g).2.5.3 = s.5.3) /\ ((Eq (α := List Value) (gC enW (finO g).2.2) z22) /\ z12)))))))))))))))))))))))) (∃ y : Unit, z13)))))))))))) False) (∃ y : Unit, (((finO g).1 = 0) /\
  ((0 = 0) /\ ((0 = 0) /\ ((List.length g.1.3 = List.length g.1.3) /\ (((↑(finO g).2.1 : Int) = (↑s.1 : Int)) /\ z3))))))))) := by kernel_rfl
theorem L_vc (b : List UInt8) (top list : Int) (bad : Bool) (t u : Tb) (s0 : Int) (ok : Bool) (e a sum sz s : Int) (V : List Wr) : mcall EtL mL 60 21 [.pointer (some ⟨0, 0, none⟩)] ⟨mkR (nums 0 [⟨[.pointer (some ⟨1, 0, none⟩), .slice (some ⟨2, 0, none⟩) b.length 1, .int .i64 0, .slice none 0 0, .int .i64 0, .int .i64 0], false, .cells false⟩, rd1 top list bad 3, bRo b, rd4 t.l.length s0 t.most 4, gOwn enF (t.l ++ t.j)]), 5⟩ (retIsM 5 (mkE ok (.tuple ⟨[]⟩) e a) 7 [(0, rd0 b.length a V.length sum sz 5), (1, rd1 top list bad 3), (2, bRo b), (3, rd4 u.l.length s u.most 6), (5, gOwn enW V), (6, gOwn enF (u.l ++ u.j))]) =
  (∃ g : GB, ((preB g) /\ ((0 = 0) /\ ((0 = 0) /\ ((0 = 0) /\ ((List.length g.1.3 = List.length b) /\ (((↑0 : Int) = (0 : Int)) /\ ((0 = 0) /\ (((0 : Int) = (0 : Int)) /\
  (((0 : Int) = (0 : Int)) /\ ((0 = 0) /\ ((g.1.1 = top) /\ ((g.1.2 = list) /\ ((g.2 = bad) /\ ((Eq (α := List Value) (bCells g.1.3) (bCells b)) /\ ((Plain (bCells g.1.3))
  /\ ((0 = 0) /\ ((List.length g.3.1 = List.length t.1) /\ (((↑(smZ g.3.1 (List.length g.3.1)) : Int) = s0) /\ ((g.3.3 = t.3) /\ ((Eq (α := List Value) ([]) ([])) /\ ((Eq (α
  := List Value) (gC enF (g.3.1 ++ g.3.2)) (gC enF (t.1 ++ t.2))) /\ ((Plain (gC enF (g.3.1 ++ g.3.2))) /\ (∀ (side : Bool), (br (side) (∀ (y : Unit), (((finO g).1 = 0) →
  ((ok = true) /\ ((0 = 0) /\ ((0 = 0) /\ ((List.length b = List.length g.1.3) /\ ((a = (↑(finO g).2.1 : Int)) /\ ((0 = 0) /\ ((List.length V = List.length (finO g).2.2) /\
  ((sum = (finO g).2.3) /\ ((sz = (finO g).2.4) /\ ((0 = 0) /\ ((top = g.1.1) /\ ((list = g.1.2) /\ ((bad = g.2) /\ ((Eq (α := List Value) (bCells b) (bCells g.1.3)) /\
  ((Plain (bCells b)) /\ ((0 = 0) /\ ((List.length u.1 = List.length (finO g).2.5.1) /\ ((s = (↑(smZ (finO g).2.5.1 (List.length (finO g).2.5.1)) : Int)) /\ ((u.3 = (finO
  g).2.5.3) /\ ((Eq (α := List Value) (gC enW V) (gC enW (finO g).2.2)) /\ ((Plain (gC enW V)) /\ ((Eq (α := List Value) (gC enF (u.1 ++ u.2)) (gC enF ((finO g).2.5.1 ++
  (finO g).2.5.2))) /\ ((Plain (gC enF (u.1 ++ u.2))) /\ True))))))))))))))))))))))))) (∀ (y : Unit), (((finO g).1 ≠ 0) → ((ok = false) /\ (((66 = 66 /\ (e = (↑(finO g).1 :
  Int) /\ a = (↑(finO g).2.1 : Int)))) /\ ((0 = 0) /\ ((0 = 0) /\ ((List.length b = List.length g.1.3) /\ ((a = (↑(finO g).2.1 : Int)) /\ ((0 = 0) /\ ((List.length V =
  List.length (finO g).2.2) /\ ((sum = (finO g).2.3) /\ ((sz = (finO g).2.4) /\ ((0 = 0) /\ ((top = g.1.1) /\ ((list = g.1.2) /\ ((bad = g.2) /\ ((Eq (α := List Value)
  (bCells b) (bCells g.1.3)) /\ ((Plain (bCells b)) /\ ((0 = 0) /\ ((List.length u.1 = List.length (finO g).2.5.1) /\ ((s = (↑(smZ (finO g).2.5.1 (List.length (finO
  g).2.5.1)) : Int)) /\ ((u.3 = (finO g).2.5.3) /\ ((Eq (α := List Value) (gC enW V) (gC enW (finO g).2.2)) /\ ((Plain (gC enW V)) /\ ((Eq (α := List Value) (gC enF (u.1 ++
  u.2)) (gC enF ((finO g).2.5.1 ++ (finO g).2.5.2))) /\ ((Plain (gC enF (u.1 ++ u.2))) /\ True))))))))))))))))))))))))))))))))))))))))))))))))))) := by kernel_rfl
theorem tL_ok : ∀ x ∈ tL, EntOk Try.prog x := all_cons eNu_ok (all_cons eLi_ok (all_cons eRo_ok (all_cons eSi_ok (all_cons eGetT_ok (all_cons eAddT_ok (all_nil))))))
theorem li_mk (l j : List Fl) (b : List UInt8) (i n : Nat) : liB ⟨gC enF (l ++ j), false, .cells true⟩ l.length (bRo b) i n = isOk (liR l b i n).e ∧ liX ⟨gC enF (l ++ j), false, .cells true⟩ l.length (bRo b) i n = bs (liR l b i n).v.n ∧ liY ⟨gC enF (l ++ j), false, .cells true⟩ l.length (bRo b) i n = bs (liR l b i n).v.v ∧ liE ⟨gC enF (l ++ j), false, .cells true⟩ l.length (bRo b) i n = ((liR l b i n).e : Nat) ∧ liA ⟨gC enF (l ++ j), false, .cells true⟩ l.length (bRo b) i n = ((liR l b i n).p : Nat) := by
  have er : rowF ⟨gC enF (l ++ j), false, .cells true⟩ l.length = l := by unfold rowF; rw [show decF (gC enF (l ++ j)) = l ++ j from decF_gC _, List.take_left]
  unfold liB liX liY liE liA
  rw [sealV_eq, sealV_eq, sealV_eq, sealV_eq, sealV_eq, dB_ro, er]
  exact ⟨rfl, rfl, rfl, rfl, rfl⟩
theorem ro_mk (W : List Wr) (list sum : Int) (a b : List UInt8) (h : Int) : roN ⟨gC enW W, false, .cells true⟩ list sum (bs a) (bs b) h = (roW list sum W ⟨a, b⟩ h).length ∧ roC ⟨gC enW W, false, .cells true⟩ list sum (bs a) (bs b) h = gC enW (roW list sum W ⟨a, b⟩ h) := by
  unfold roN roC
  rw [sealV_eq, sealV_eq, show decW (gC enW W) = W from decW_gC W]
  exact ⟨rfl, rfl⟩
theorem ro_zz (sum : Int) (a b : List UInt8) : roZ sum (bs a) (bs b) = roS sum ⟨a, b⟩ := by unfold roZ; rw [sealV_eq]; rfl
theorem ro_zb (list sum : Int) (a b : List UInt8) : roB list sum (bs a) (bs b) = decide (roS sum ⟨a, b⟩ ≤ list) := by unfold roB; rw [sealV_eq]; rfl
theorem si_mk (l j : List Fl) (mo : Int) (b : List UInt8) (i w : Nat) (sz top : Int) : siB (bRo b) i w sz top = isOk (siR b i w sz top).e ∧ siE (bRo b) i w sz top = ((siR b i w sz top).e : Nat) ∧ siA (bRo b) i w sz top = ((siR b i w sz top).p : Nat) ∧ siW (bRo b) i w sz top = siZ b i w sz top ∧
    siN ⟨gC enF (l ++ j), false, .cells true⟩ l.length mo (bRo b) i w sz top = (siT b i w sz top ⟨l, j, mo⟩).l.length ∧ siS ⟨gC enF (l ++ j), false, .cells true⟩ l.length mo (bRo b) i w sz top = ((smN (siT b i w sz top ⟨l, j, mo⟩).l : Nat) : Int) ∧ siM ⟨gC enF (l ++ j), false, .cells true⟩ l.length mo (bRo b) i w sz top = (siT b i w sz top ⟨l, j, mo⟩).most ∧ siC ⟨gC enF (l ++ j), false, .cells true⟩ l.length mo (bRo b) i w sz top = gC enF ((siT b i w sz top ⟨l, j, mo⟩).l ++ (siT b i w sz top ⟨l, j, mo⟩).j) := by
  have er : rowT ⟨gC enF (l ++ j), false, .cells true⟩ l.length mo = ⟨l, j, mo⟩ := row_T l j mo
  unfold siB siE siA siW siN siS siM siC
  rw [sealV_eq, sealV_eq, sealV_eq, sealV_eq, sealV_eq, sealV_eq, sealV_eq, sealV_eq, dB_ro, er]
  exact ⟨rfl, rfl, rfl, rfl, rfl, rfl, rfl, rfl⟩
def IV (x : Cx) (s : St) : Prop := s.i ≤ x.b.length ∧ (Ok s.t ∧ s.t.most ≤ x.top) ∧ 0 ≤ s.sum ∧ s.sum ≤ x.list ∧ 0 ≤ s.sz ∧ s.sz ≤ 2 ∧ s.W.length ≤ s.i
def invB (g : GB) (s : St) : Prop := IV g.x s ∧ ∃ k, g.x.b.length ≤ s.i + k ∧ runO g.x k s = finO g
noncomputable def lenAll : Nat → Nat → Bool
  | 0, _ => true
  | n + 1, k => Nat.ble ((L (twoS (stR k)).1).length + (L (twoS (stR k)).2).length) 1000 && lenAll n (k + 1)
theorem len16 : lenAll 16 1 = true := by kernel_rfl
theorem len32 : lenAll 16 17 = true := by kernel_rfl
theorem len48 : lenAll 16 33 = true := by kernel_rfl
theorem len61 : lenAll 13 49 = true := by kernel_rfl
theorem lenAll_at : ∀ (n k : Nat), lenAll n k = true → ∀ j, k ≤ j → j < k + n → (L (twoS (stR j)).1).length + (L (twoS (stR j)).2).length ≤ 1000
  | 0, k, _, j, h1, h2 => by omega
  | n + 1, k, h, j, h1, h2 => by
    simp only [lenAll, Bool.and_eq_true] at h
    by_cases e : j = k
    · subst e; exact Nat.le_of_ble_eq_true h.1
    · exact lenAll_at n (k + 1) h.2 j (by omega) (by omega)
theorem len_in (j : Nat) (h1 : 1 ≤ j) (h2 : j ≤ 61) : (L (twoS (stR j)).1).length + (L (twoS (stR j)).2).length ≤ 1000 := by
  rcases Nat.lt_or_ge j 17 with h | h
  · exact lenAll_at _ _ len16 j h1 h
  · rcases Nat.lt_or_ge j 33 with h | h
    · exact lenAll_at _ _ len32 j (by omega) h
    · rcases Nat.lt_or_ge j 49 with h | h
      · exact lenAll_at _ _ len48 j (by omega) h
      · exact lenAll_at _ _ len61 j (by omega) (by omega)
theorem sm_mem (l : List Fl) (f : Fl) (h : f ∈ l) : fbN f ≤ smN l := by
  induction l with
  | nil => simp at h
  | cons a l ih =>
    have e : smN (a :: l) = fbN a + smN l := by unfold smN; rw [List.map_cons, List.sum_cons]
    rcases List.mem_cons.1 h with rfl | h
    · omega
    · have := ih h; omega
theorem fb_get (l : List Fl) (i : Int) (h : smN l ≤ 65536) : fbN (getF l i).1 ≤ 70000 := by
  unfold getF
  split
  · by_cases hr : inR i = true
    · have h2 : 1 ≤ i ∧ i ≤ 61 := by unfold inR at hr; exact of_decide_eq_true hr
      have := len_in i.toNat (by omega) (by omega)
      have ea : stA i = (twoS (stR i.toNat)).1 := by unfold stA; rw [hr]; rfl
      have eb : stB i = (twoS (stR i.toNat)).2 := by unfold stB; rw [hr]; rfl
      simp only [ea, eb]
      unfold fbN; simp only; omega
    · have hr : inR i = false := by simpa using hr
      have ea : stA i = ⟨#[]⟩ := by unfold stA; rw [hr]; rfl
      have eb : stB i = ⟨#[]⟩ := by unfold stB; rw [hr]; rfl
      simp only [ea, eb]
      decide
  · split
    · rename_i h2
      have hm : l.getD (i - 62).toNat ⟨[], []⟩ ∈ l := by rw [show l.getD (i - 62).toNat ⟨[], []⟩ = l[(i - 62).toNat] by simp [List.getD, List.getElem?_eq_getElem h2]]; exact List.getElem_mem _
      have := sm_mem l _ hm
      simp only; omega
    · decide
theorem tx_len (b : List UInt8) (i : Nat) : (txR b i).v.length ≤ 65536 := by
  unfold txR
  repeat' split
  all_goals (simp only [List.length_nil, List.length_take]; omega)
theorem fb_lv (b : List UInt8) (p : Nat) (x : List UInt8) (h : x.length ≤ 70000) : fbN (lvR b p x).v ≤ 1000000 := by
  unfold lvR
  have := tx_len b p
  split
  · show fbN no0 ≤ _; decide
  · unfold fbN; simp only; omega
theorem fb_lit (l : List Fl) (b : List UInt8) (i n : Nat) (h : smN l ≤ 65536) : fbN (liR l b i n).v ≤ 1000000 := by
  unfold liR
  split
  · show fbN no0 ≤ _; decide
  · split
    · split
      · show fbN no0 ≤ _; decide
      · refine fb_lv _ _ _ ?_
        have := fb_get l ((nuR b i n).v : Nat) h
        unfold fbN at this; omega
    · split
      · show fbN no0 ≤ _; decide
      · have := tx_len b (nuR b i n).p
        exact fb_lv _ _ _ (by omega)
theorem lv_ok (b : List UInt8) (p : Nat) (x : List UInt8) (h : (lvR b p x).e = 0) : p < (lvR b p x).p ∧ (lvR b p x).p ≤ b.length := by
  unfold lvR at h ⊢
  split at h
  · rename_i g; exact absurd h g
  · rename_i g
    rw [if_neg g]
    exact tx_ok b p (by omega)
theorem li_ok (l : List Fl) (b : List UInt8) (i n : Nat) (hn : n ≤ 8) (h : (liR l b i n).e = 0) : i < (liR l b i n).p ∧ (liR l b i n).p ≤ b.length := by
  unfold liR at h ⊢
  split at h
  · rename_i g; exact absurd h g
  rename_i g1
  rw [if_neg g1]
  have := nu_spec b i n hn (by omega)
  split at h
  · rename_i g2
    rw [if_pos g2]
    split at h
    · simp at h
    · rename_i g3
      rw [if_neg g3]
      have := lv_ok _ _ _ h
      omega
  · rename_i g2
    rw [if_neg g2]
    split at h
    · rename_i g; exact absurd h g
    · rename_i g3
      rw [if_neg g3]
      have := lv_ok _ _ _ h
      have := tx_ok b (nuR b i n).p (by omega)
      omega
theorem row_iv (x : Cx) (s : St) (f : Fl) (h : Int) (h1 : s.i ≤ x.b.length) (h2 : Ok s.t ∧ s.t.most ≤ x.top) (h3 : 0 ≤ s.sum) (h5 : 0 ≤ s.sz) (h7 : s.sz ≤ 2) (h6 : s.W.length + 1 ≤ s.i) (he : (rowO x s f h).e = 0) : IV x (rowO x s f h).s ∧ (rowO x s f h).s.i = s.i := by
  unfold rowO at he ⊢
  simp only at he ⊢
  by_cases g : x.list < roS s.sum f
  · rw [if_pos g] at he; simp at he
  · refine ⟨⟨h1, h2, by simp only; unfold roS; omega, by simp only; omega, h5, h7, ?_⟩, trivial⟩
    simp only
    unfold roW; rw [if_neg g, List.length_append]; simp only [List.length_singleton]; omega
theorem step_iv (x : Cx) (s : St) (h : IV x s) (he : (step x s).e = 0) : IV x (step x s).s ∧ s.i < (step x s).s.i := by
  obtain ⟨h1, h2, h3, h4, h5, h6, h7⟩ := h
  have lit : ∀ hh, (stLi x s hh).e = 0 → IV x (stLi x s hh).s ∧ s.i < (stLi x s hh).s.i := fun hh he => by
    unfold stLi at he ⊢
    split at he
    · rename_i g; exact absurd he g
    · rename_i g
      rw [if_neg g]
      have l1 := li_ok s.t.l x.b s.i 4 (by omega) (by omega)
      obtain ⟨a1, a2⟩ := row_iv x ⟨(liR s.t.l x.b s.i 4).p, s.W, s.sum, s.sz, s.t⟩ _ _ l1.2 h2 h3 h5 h6 (by simp only; omega) he
      exact ⟨a1, by rw [a2]; exact l1.1⟩
  unfold step at he ⊢
  split at he
  · rename_i g
    rw [if_pos g]
    unfold stIx at he ⊢
    split at he
    · rename_i g; exact absurd he g
    rename_i g1
    rw [if_neg g1]
    have l1 := nu_spec x.b s.i 7 (by omega) (by omega)
    split at he
    · simp at he
    · rename_i g2
      rw [if_neg g2]
      obtain ⟨a1, a2⟩ := row_iv x ⟨(nuR x.b s.i 7).p, s.W, s.sum, s.sz, s.t⟩ _ _ l1.2.1 h2 h3 h5 h6 (by simp only; omega) he
      exact ⟨a1, by rw [a2]; exact l1.1⟩
  rename_i c1
  rw [if_neg c1]
  split at he
  · rename_i g
    rw [if_pos g]
    unfold stAd at he ⊢
    split at he
    · rename_i g; exact absurd he g
    · rename_i g
      rw [if_neg g]
      have l1 := li_ok s.t.l x.b s.i 6 (by omega) (by omega)
      obtain ⟨a1, a2⟩ := row_iv x ⟨(liR s.t.l x.b s.i 6).p, s.W, s.sum, s.sz, addT s.t (liR s.t.l x.b s.i 6).v⟩ _ _ l1.2 ⟨ok_ad _ _ h2.1, by simp only; rw [addT_m]; exact h2.2⟩ h3 h5 h6 (by simp only; omega) he
      exact ⟨a1, by rw [a2]; exact l1.1⟩
  rename_i c2
  rw [if_neg c2]
  split at he
  · rename_i g
    rw [if_pos g]
    unfold stSi at he ⊢
    simp only at he ⊢
    have hz : siZ x.b s.i s.W.length s.sz x.top = s.sz + 1 := if_pos he
    have ht : siT x.b s.i s.W.length s.sz x.top s.t = rsT s.t ((nuR x.b s.i 5).v : Nat) := if_pos he
    rw [hz, ht]
    unfold siR at he ⊢
    split at he
    · rename_i g; exact absurd he g
    rename_i g1
    rw [if_neg g1]
    have l1 := nu_spec x.b s.i 5 (by omega) (by omega)
    split at he
    · rename_i g2
      rw [if_pos g2]
      refine ⟨⟨l1.2.1, ⟨ok_rs _ _ h2.1, ?_⟩, h3, h4, by simp only; omega, by simp only; omega, by simp only; omega⟩, l1.1⟩
      simp only
      rw [rsT_m]
      have := h2.2
      split <;> omega
    · simp at he
  rename_i c3
  rw [if_neg c3]
  split at he
  · rename_i g
    rw [if_pos g]
    exact lit _ he
  · rename_i g
    rw [if_neg g]
    exact lit _ he
theorem L_piece : PieceOk EtL 5 (21, [0], specL) := by
  refine piece_loop tk.mixed (calls_envT tL_ok) (lok_envT _ _) lm_none (n := 60) (by kernel_rfl) (fun g : GB => st0 g.t) invB (fun g s => g.x.b.length - s.i) (sl := slS) (rl := rlS) (fun g hg => ⟨⟨Nat.zero_le _, ⟨hg.2.2.2.2.1, hg.2.2.2.2.2⟩, Int.le_refl _, hg.2.2.1, Int.le_refl _, by show (0 : Int) ≤ 2; omega, Nat.le_refl _⟩, g.x.b.length, by simp [st0], by unfold finO; rw [sealV_eq]⟩) (fun g s hg hi => ?_)
  refine (L_round g s _ _).mpr ?_
  obtain ⟨i, W, sum, sz, ⟨tl, tj, tm⟩⟩ := s
  obtain ⟨⟨top, list, b⟩, bad, ⟨gl, gj, gm⟩⟩ := g
  obtain ⟨⟨h1, ⟨h2, h3⟩, h4, h5, h6, h7, h8⟩, k, hk, hr⟩ := hi
  obtain ⟨p1, p2, p3, p4, p5, p6⟩ := hg
  simp only at h1 h2 h3 h4 h5 h6 h7 h8 hk hr p1 p2 p3 p4 p5 p6
  have one : ∀ l : List Fl, smN (l.take l.length) = smN l := fun l => by rw [List.take_length]
  obtain ⟨n1, n2, n3, n4⟩ := nu_mk b i 7
  have cN : ((7 : Nat) : Int) = 7 := rfl
  have c6 : ((6 : Nat) : Int) = 6 := rfl
  have c4 : ((4 : Nat) : Int) = 4 := rfl
  rw [cN] at n1 n2 n3 n4
  have pb := bCells_plain b
  have hn7 : IsN 7 := by unfold IsN; omega
  have hn6 : IsN 6 := by unfold IsN; omega
  have hn4 : IsN 4 := by unfold IsN; omega
  have hA := isAt b i p1 h1
  obtain ⟨l1, l2, l3, l4, l5⟩ := li_mk tl tj b i 6
  obtain ⟨m1, m2, m3, m4, m5⟩ := li_mk tl tj b i 4
  rw [c6] at l1 l2 l3 l4 l5
  rw [c4] at m1 m2 m3 m4 m5
  obtain ⟨q1, q2, q3, q4, q5, q6, q7, q8⟩ := si_mk tl tj tm b i W.length sz top
  obtain ⟨g1, g2, g3⟩ := gf_mk tl tj ((nuR b i 7).v : Nat)
  have sl : smN tl ≤ 65536 := by obtain ⟨o1, _, o3⟩ := h2; simp only at o1 o3; omega
  have hl : tl.length ≤ 16777216 := by have := ok_len tl; omega
  have hT := isTg tl tj hl
  have hTl : IsTl ⟨gC enF (tl ++ tj), false, .cells true⟩ tl.length := ⟨tl, tj, rfl, rfl, hl⟩
  have hBm : IsBm (bRo b) b.length := ⟨b, rfl, rfl⟩
  have hWm : IsWm ⟨gC enW W, false, .cells true⟩ W.length := ⟨W, rfl, rfl, by omega⟩
  have hTs : IsTs ⟨gC enF (tl ++ tj), false, .cells true⟩ tl.length (smN tl : Nat) tm := ⟨tl, tj, rfl, rfl, rfl, h2⟩
  have hSz : SzP sz top := ⟨h6, by omega, p2⟩
  simp only [ofNat_eq, toNat_cast, Nat.zero_add, Nat.add_zero, Nat.mul_one, List.drop_zero, bCells_len, bCells_drop, bCells_take, bCells_app, bCells_one, bCells_plain, List.length_replicate, List.length_append, List.length_take, List.length_drop, List.take_length, and_true, true_and, and_self, decide_true, List.length_nil, List.length_cons, Nat.sub_zero, dB_mk, dB_ro, List.take_zero, z_smZ, one, Nat.mul_one, List.drop_zero, bTake, bRo_eq, n1, n2, n3, n4, l1, l2, l3, l4, l5, m1, m2, m3, m4, m5, q1, q2, q3, q4, q5, q6, q7, q8, g1, g2, g3, ro_mk, ro_zz, ro_zb, (ad_mk tl tj tm _ _).1, (ad_mk tl tj tm _ _).2.1, (ad_mk tl tj tm _ _).2.2, hA, hn7, hn6, hn4, hT, hTl, hBm, hWm, hTs, hSz, isWs, isFs, bCells_len, Nat.zero_add, pb, plW, fPl, Nat.le_refl, and_true, true_and]
  have hfin : ∀ {X : Cx} {S : St}, X = ⟨top, list, b⟩ → S = ⟨i, W, sum, sz, ⟨tl, tj, tm⟩⟩ → i < b.length → (step X S).e ≠ 0 → finO ⟨⟨top, list, b⟩, bad, ⟨gl, gj, gm⟩⟩ = step X S := by
    rintro X S rfl rfl h0 hne
    rw [← hr]
    obtain ⟨q, rfl⟩ : ∃ q, k = q + 1 := ⟨k - 1, by omega⟩
    rw [runO, if_neg (by simp only; omega), if_pos hne]
  have hgo : ∀ {X : Cx} {S : St}, X = ⟨top, list, b⟩ → S = ⟨i, W, sum, sz, ⟨tl, tj, tm⟩⟩ → i < b.length → (step X S).e = 0 → invB ⟨⟨top, list, b⟩, bad, ⟨gl, gj, gm⟩⟩ (step X S).s ∧ b.length - (step X S).s.i < b.length - i := by
    rintro X S rfl rfl h0 hne
    obtain ⟨v1, v2⟩ := step_iv ⟨top, list, b⟩ ⟨i, W, sum, sz, ⟨tl, tj, tm⟩⟩ ⟨h1, ⟨h2, h3⟩, h4, h5, h6, h7, h8⟩ hne
    have v3 := v1.1
    simp only at v2 v3
    obtain ⟨q, rfl⟩ : ∃ q, k = q + 1 := ⟨k - 1, by omega⟩
    rw [runO, if_neg (by simp only; omega), if_neg (by omega)] at hr
    exact ⟨⟨v1, q, by simp only; omega, hr⟩, by omega⟩
  by_cases h0 : ¬ i < b.length
  · refine br_nd (by omega) ?_
    have hz : finO ⟨⟨top, list, b⟩, bad, ⟨gl, gj, gm⟩⟩ = ⟨0, ⟨i, W, sum, sz, ⟨tl, tj, tm⟩⟩⟩ := by
      rw [← hr]
      cases k with
      | zero => rfl
      | succ q => rw [runO, if_pos (by simp only; omega)]
    rw [hz]
    exact ⟨(), rfl, rfl, rfl, rfl, rfl, rfl, rfl, rfl, rfl, rfl⟩
  replace h0 : i < b.length := Decidable.not_not.1 h0
  obtain ⟨X, hX⟩ : ∃ X, X = (⟨top, list, b⟩ : Cx) := ⟨_, rfl⟩
  obtain ⟨S, hS⟩ : ∃ S, S = (⟨i, W, sum, sz, ⟨tl, tj, tm⟩⟩ : St) := ⟨_, rfl⟩
  replace hfin := fun h => hfin hX hS h0 h
  replace hgo := fun h => hgo hX hS h0 h
  have ec : cellI (bCells b) i = (atB b i : Nat) := bCells_cell h0
  have sps : step X S = if 128 ≤ atB b i then stIx X S else if 64 ≤ atB b i then stAd X S else if 32 ≤ atB b i then stSi X S else if 16 ≤ atB b i then stLi X S 3 else stLi X S 2 := by subst hX hS; rfl
  refine br_dec (by omega) (br_dec (by omega) ⟨bCells_at h0, bCells_at h0, ?_⟩)
  rw [ec]
  by_cases c1 : 128 ≤ atB b i
  · refine br_dec (by omega) ?_
    have e0 : step X S = stIx X S := by rw [sps]; exact if_pos c1
    by_cases k1 : (nuR b i 7).e ≠ 0
    · have e : step X S = ⟨(nuR b i 7).e, ⟨i, W, sum, sz, ⟨tl, tj, tm⟩⟩⟩ := by rw [e0]; subst hX hS; exact if_pos k1
      have ep : (nuR b i 7).p = i := by unfold nuR at k1 ⊢; exact if_neg k1
      refine br_nb (isOk_f k1) ?_
      rw [hfin (by rw [e]; exact k1), e, ep]
      exact ⟨(), k1, ⟨rfl, rfl⟩, rfl, rfl, rfl, rfl, rfl, rfl, rfl, rfl, rfl⟩
    obtain ⟨s1, s2, s3⟩ := nu_spec b i 7 (by omega) (by omega)
    refine br_b (by simp [isOk]; omega) ⟨by unfold I64; omega, ?_⟩
    by_cases k2 : (getF tl ((nuR b i 7).v : Nat)).2 = false
    · have e : step X S = ⟨5, ⟨(nuR b i 7).p, W, sum, sz, ⟨tl, tj, tm⟩⟩⟩ := by rw [e0]; subst hX hS; unfold stIx; rw [if_neg k1, if_pos k2]
      refine br_b (by rw [k2]; rfl) ?_
      rw [hfin (by rw [e]; simp), e]
      exact ⟨(), by simp, ⟨rfl, rfl⟩, rfl, rfl, rfl, rfl, rfl, rfl, rfl, rfl, rfl⟩
    have e : step X S = rowO X ⟨(nuR b i 7).p, W, sum, sz, ⟨tl, tj, tm⟩⟩ (getF tl ((nuR b i 7).v : Nat)).1 1 := by rw [e0]; subst hX hS; unfold stIx; rw [if_neg k1, if_neg k2]
    have fl := fb_get tl ((nuR b i 7).v : Nat) sl
    refine br_nb (by simpa using k2) ⟨⟨h4, by omega, Nat.le_trans fl (by omega)⟩, ?_⟩
    by_cases k3 : list < roS sum (getF tl ((nuR b i 7).v : Nat)).1
    · have e2 : step X S = ⟨2, ⟨(nuR b i 7).p, roW list sum W (getF tl ((nuR b i 7).v : Nat)).1 1, roS sum (getF tl ((nuR b i 7).v : Nat)).1, sz, ⟨tl, tj, tm⟩⟩⟩ := by rw [e]; subst hX; unfold rowO; simp only; rw [if_pos k3]
      refine br_nd (Int.not_le.2 k3) ?_
      rw [hfin (by rw [e2]; simp), e2]
      exact ⟨(), by simp, ⟨rfl, rfl⟩, rfl, rfl, rfl, rfl, rfl, rfl, rfl, rfl, rfl⟩
    · have e2 : step X S = ⟨0, ⟨(nuR b i 7).p, roW list sum W (getF tl ((nuR b i 7).v : Nat)).1 1, roS sum (getF tl ((nuR b i 7).v : Nat)).1, sz, ⟨tl, tj, tm⟩⟩⟩ := by rw [e]; subst hX; unfold rowO; simp only; rw [if_neg k3]
      have q := hgo (by rw [e2])
      rw [e2] at q
      refine br_dec (Int.not_lt.1 k3) ?_
      exact ⟨_, q.1, q.2, rfl, rfl, rfl, rfl, rfl, rfl, rfl, rfl, rfl⟩
  refine br_nd (by omega) ?_
  by_cases c2 : 64 ≤ atB b i
  · refine br_dec (by omega) ?_
    have e0 : step X S = stAd X S := by rw [sps, if_neg c1]; exact if_pos c2
    by_cases k1 : (liR tl b i 6).e ≠ 0
    · have e : step X S = ⟨(liR tl b i 6).e, ⟨(liR tl b i 6).p, W, sum, sz, ⟨tl, tj, tm⟩⟩⟩ := by rw [e0]; subst hX hS; exact if_pos k1
      refine br_nb (isOk_f k1) ?_
      rw [hfin (by rw [e]; exact k1), e]
      exact ⟨(), k1, ⟨rfl, rfl⟩, rfl, rfl, rfl, rfl, rfl, rfl, rfl, rfl, rfl⟩
    have e : step X S = rowO X ⟨(liR tl b i 6).p, W, sum, sz, addT ⟨tl, tj, tm⟩ (liR tl b i 6).v⟩ (liR tl b i 6).v 1 := by rw [e0]; subst hX hS; exact if_neg k1
    have fl := fb_lit tl b i 6 sl
    refine br_b (by simp [isOk]; omega) ⟨⟨⟨tl, tj, rfl, rfl, rfl, by have := ok_len tl; omega, by omega⟩, by rw [z_fbZ]; exact Nat.le_trans fl (by omega), h2.2.1, by have := h2.2.2; simp only at this; omega⟩, ⟨h4, by omega, Nat.le_trans fl (by omega)⟩, ?_⟩
    by_cases k3 : list < roS sum (liR tl b i 6).v
    · have e2 : step X S = ⟨2, ⟨(liR tl b i 6).p, roW list sum W (liR tl b i 6).v 1, roS sum (liR tl b i 6).v, sz, addT ⟨tl, tj, tm⟩ (liR tl b i 6).v⟩⟩ := by rw [e]; subst hX; unfold rowO; simp only; rw [if_pos k3]
      refine br_nd (Int.not_le.2 k3) ?_
      rw [hfin (by rw [e2]; simp), e2]
      exact ⟨(), by simp, ⟨rfl, rfl⟩, rfl, rfl, rfl, rfl, rfl, rfl, addT_m _ _, rfl, rfl⟩
    · have e2 : step X S = ⟨0, ⟨(liR tl b i 6).p, roW list sum W (liR tl b i 6).v 1, roS sum (liR tl b i 6).v, sz, addT ⟨tl, tj, tm⟩ (liR tl b i 6).v⟩⟩ := by rw [e]; subst hX; unfold rowO; simp only; rw [if_neg k3]
      have q := hgo (by rw [e2])
      rw [e2] at q
      refine br_dec (Int.not_lt.1 k3) ?_
      exact ⟨_, q.1, q.2, rfl, rfl, rfl, rfl, rfl, rfl, addT_m _ _, rfl, rfl⟩
  refine br_nd (by omega) ?_
  by_cases c3 : 32 ≤ atB b i
  · refine br_dec (by omega) ?_
    have e : step X S = ⟨(siR b i W.length sz top).e, ⟨(siR b i W.length sz top).p, W, sum, siZ b i W.length sz top, siT b i W.length sz top ⟨tl, tj, tm⟩⟩⟩ := by rw [sps, if_neg c1, if_neg c2, if_pos c3]; subst hX hS; rfl
    by_cases k1 : (siR b i W.length sz top).e ≠ 0
    · refine br_nb (isOk_f k1) ?_
      rw [hfin (by rw [e]; exact k1), e]
      exact ⟨(), k1, ⟨rfl, rfl⟩, rfl, rfl, rfl, rfl, rfl, rfl, rfl, rfl, rfl⟩
    · have q := hgo (by rw [e]; simp only; omega)
      rw [e] at q
      refine br_b (by simp [isOk]; omega) ?_
      exact ⟨_, q.1, q.2, rfl, rfl, rfl, rfl, rfl, rfl, rfl, rfl, rfl⟩
  refine br_nd (by omega) ?_
  by_cases c4 : 16 ≤ atB b i
  · refine br_dec (by omega) ?_
    have e0 : step X S = stLi X S 3 := by rw [sps, if_neg c1, if_neg c2, if_neg c3]; exact if_pos c4
    by_cases k1 : (liR tl b i 4).e ≠ 0
    · have e : step X S = ⟨(liR tl b i 4).e, ⟨(liR tl b i 4).p, W, sum, sz, ⟨tl, tj, tm⟩⟩⟩ := by rw [e0]; subst hX hS; exact if_pos k1
      refine br_nb (isOk_f k1) ?_
      rw [hfin (by rw [e]; exact k1), e]
      exact ⟨(), k1, ⟨rfl, rfl⟩, rfl, rfl, rfl, rfl, rfl, rfl, rfl, rfl, rfl⟩
    have e : step X S = rowO X ⟨(liR tl b i 4).p, W, sum, sz, ⟨tl, tj, tm⟩⟩ (liR tl b i 4).v 3 := by rw [e0]; subst hX hS; exact if_neg k1
    have fl := fb_lit tl b i 4 sl
    refine br_b (by simp [isOk]; omega) ⟨⟨h4, by omega, Nat.le_trans fl (by omega)⟩, ?_⟩
    by_cases k3 : list < roS sum (liR tl b i 4).v
    · have e2 : step X S = ⟨2, ⟨(liR tl b i 4).p, roW list sum W (liR tl b i 4).v 3, roS sum (liR tl b i 4).v, sz, ⟨tl, tj, tm⟩⟩⟩ := by rw [e]; subst hX; unfold rowO; simp only; rw [if_pos k3]
      refine br_nd (Int.not_le.2 k3) ?_
      rw [hfin (by rw [e2]; simp), e2]
      exact ⟨(), by simp, ⟨rfl, rfl⟩, rfl, rfl, rfl, rfl, rfl, rfl, rfl, rfl, rfl⟩
    · have e2 : step X S = ⟨0, ⟨(liR tl b i 4).p, roW list sum W (liR tl b i 4).v 3, roS sum (liR tl b i 4).v, sz, ⟨tl, tj, tm⟩⟩⟩ := by rw [e]; subst hX; unfold rowO; simp only; rw [if_neg k3]
      have q := hgo (by rw [e2])
      rw [e2] at q
      refine br_dec (Int.not_lt.1 k3) ?_
      exact ⟨_, q.1, q.2, rfl, rfl, rfl, rfl, rfl, rfl, rfl, rfl, rfl⟩
  · refine br_nd (by omega) ?_
    have e0 : step X S = stLi X S 2 := by rw [sps, if_neg c1, if_neg c2, if_neg c3]; exact if_neg c4
    by_cases k1 : (liR tl b i 4).e ≠ 0
    · have e : step X S = ⟨(liR tl b i 4).e, ⟨(liR tl b i 4).p, W, sum, sz, ⟨tl, tj, tm⟩⟩⟩ := by rw [e0]; subst hX hS; exact if_pos k1
      refine br_nb (isOk_f k1) ?_
      rw [hfin (by rw [e]; exact k1), e]
      exact ⟨(), k1, ⟨rfl, rfl⟩, rfl, rfl, rfl, rfl, rfl, rfl, rfl, rfl, rfl⟩
    have e : step X S = rowO X ⟨(liR tl b i 4).p, W, sum, sz, ⟨tl, tj, tm⟩⟩ (liR tl b i 4).v 2 := by rw [e0]; subst hX hS; exact if_neg k1
    have fl := fb_lit tl b i 4 sl
    refine br_b (by simp [isOk]; omega) ⟨⟨h4, by omega, Nat.le_trans fl (by omega)⟩, ?_⟩
    by_cases k3 : list < roS sum (liR tl b i 4).v
    · have e2 : step X S = ⟨2, ⟨(liR tl b i 4).p, roW list sum W (liR tl b i 4).v 2, roS sum (liR tl b i 4).v, sz, ⟨tl, tj, tm⟩⟩⟩ := by rw [e]; subst hX; unfold rowO; simp only; rw [if_pos k3]
      refine br_nd (Int.not_le.2 k3) ?_
      rw [hfin (by rw [e2]; simp), e2]
      exact ⟨(), by simp, ⟨rfl, rfl⟩, rfl, rfl, rfl, rfl, rfl, rfl, rfl, rfl, rfl⟩
    · have e2 : step X S = ⟨0, ⟨(liR tl b i 4).p, roW list sum W (liR tl b i 4).v 2, roS sum (liR tl b i 4).v, sz, ⟨tl, tj, tm⟩⟩⟩ := by rw [e]; subst hX; unfold rowO; simp only; rw [if_neg k3]
      have q := hgo (by rw [e2])
      rw [e2] at q
      refine br_dec (Int.not_lt.1 k3) ?_
      exact ⟨_, q.1, q.2, rfl, rfl, rfl, rfl, rfl, rfl, rfl, rfl, rfl⟩
end Go.Proofs.Ytellbmbklfbbfaa.up
