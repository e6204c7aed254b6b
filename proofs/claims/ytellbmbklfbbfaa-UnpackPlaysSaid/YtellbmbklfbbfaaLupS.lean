/- The document's own reader of blocks: a block. -/
import Derived.Test.YtellbmbklfbbfaaSz9
import Derived.Test.YtellbmbklfbbfaaRows
import Derived.Test.YtellbmbklfbbfaaLupR
set_option maxRecDepth 20000
set_option linter.unusedSimpArgs false
set_option linter.unusedVariables false
namespace Go.Proofs.Ytellbmbklfbbfaa.up
open Go Go.Ev Go.Sy Go.RowKit Go.Proofs.Ytellbmbklfbbfaa.gl Go.Proofs.Ytellbmbklfbbfaa.tk Go.Proofs.Ytellbmbklfbbfaa.hf Go.Proofs.Ytellbmbklfbbfaa.s3 Go.Proofs.Ytellbmbklfbbfaa.tb
def IsLt (r : Row) (m : Nat) (i : Int) : Prop := ∃ b : List UInt8, r = bRo b ∧ m = b.length ∧ b.length ≤ 1048576 ∧ 0 ≤ i ∧ i < b.length
def IsTo (r : Row) (k : Nat) (m : Int) : Prop := ∃ l j : List Fl, r = gOwn enF (l ++ j) ∧ k = l.length ∧ Ok ⟨l, j, m⟩
noncomputable def ryQ (r : Row) (i : Int) (q : Row) (k : Nat) (m : Int) : RwY := rwY (rowT q k m) (dB r) i.toNat
noncomputable def ryA : Row → Int → Row → Nat → Int → ByteArray := sealV fun r i q k m => bs (ryQ r i q k m).f.n
noncomputable def ryB : Row → Int → Row → Nat → Int → ByteArray := sealV fun r i q k m => bs (ryQ r i q k m).f.v
noncomputable def ryH : Row → Int → Row → Nat → Int → Int := sealV fun r i q k m => (ryQ r i q k m).h
noncomputable def ryP : Row → Int → Row → Nat → Int → Int := sealV fun r i q k m => ((ryQ r i q k m).p : Nat)
noncomputable def ryE : Row → Int → Row → Nat → Int → Int := sealV fun r i q k m => ((ryQ r i q k m).e : Nat)
noncomputable def ryK : Row → Int → Row → Nat → Int → Nat := sealV fun r i q k m => (ryQ r i q k m).t.l.length
noncomputable def ryM : Row → Int → Row → Nat → Int → Int := sealV fun r i q k m => (ryQ r i q k m).t.most
noncomputable def ryC : Row → Int → Row → Nat → Int → List Value := sealV fun r i q k m => gC enF ((ryQ r i q k m).t.l ++ (ryQ r i q k m).t.j)
noncomputable def eRr : EntM := (27, fun a r => match a, r with
  | [.pointer (some ⟨0, 0, none⟩), .slice (some ⟨1, 0, none⟩) w 1, .int .i64 i], [⟨[.pointer (some ⟨2, 0, none⟩), .int .i64 top, .int .i64 list, .bool bad], false, .cells false⟩, r1, ⟨[.slice (some ⟨3, 0, none⟩) k 2, .int .i64 m], false, .cells false⟩, r3] =>
    some (IsLt r1 w i ∧ IsTo r3 k m, .tuple ⟨[.agg ⟨[.string (ryA r1 i r3 k m), .string (ryB r1 i r3 k m), .int .i64 (ryH r1 i r3 k m)]⟩, .int .i64 (ryP r1 i r3 k m), .int .i64 (ryE r1 i r3 k m)]⟩, 5, [(0, rd1 top list bad 2), (1, r1), (2, rtC (ryK r1 i r3 k m) (ryM r1 i r3 k m) 4), (4, ⟨ryC r1 i r3 k m, false, .cells true⟩)])
  | _, _ => none)
noncomputable def tRB : List EntM := [eGtR, eResR, eRr, eFbR]
noncomputable abbrev EtRB : Env := envT Try.prog tRB
def slB (g : GB) (s : St) : List (Nat × Value) := [(0, .pointer (some ⟨0, 0, none⟩)), (1, slc 1 g.x.b.length), (6, .slice (some ⟨4, 0, none⟩) s.W.length 3), (7, .int .i64 (s.i : Nat)), (8, .int .i64 s.sum), (9, .int .i64 s.sz)]
noncomputable def rlB (g : GB) (s : St) : List (Nat × Row) := [(0, rd1 g.x.top g.x.list g.bad 2), (1, bRo g.x.b), (2, rtC s.t.l.length s.t.most 5), (4, gOwn enW s.W), (5, gOwn enF (s.t.l ++ s.t.j))]
noncomputable def wsB (g : GB) : List (Gate Unit) := [⟨.exit 0, fun _ => (finO g).e = 0, fun _ => [(6, .slice (some ⟨4, 0, none⟩) (finO g).s.W.length 3)], fun _ => rlB g (finO g).s, 6⟩, ⟨.ret, fun _ => (finO g).e ≠ 0, fun _ => [(4, .slice none 0 0), (5, .int .i64 ((finO g).e : Nat))], fun _ => [(0, rd1 g.x.top g.x.list true 2), (1, bRo g.x.b), (2, rtC (finO g).s.t.l.length (finO g).s.t.most 5), (5, gOwn enF ((finO g).s.t.l ++ (finO g).s.t.j))], 6⟩]
def pRB : List Nat := [0, 0, 1, 1, 1, 1]
noncomputable def specRB : Sy.Spec := specOf 4 6 107 preB (fun g => slB g (st0 g.t)) (fun g => rlB g (st0 g.t)) wsB
noncomputable def mRB := mOf [(15, pRB, specRB)]
theorem RB_round (g : GB) (s : St) (Inv : St → Prop) (m : St → Nat) : mev EtRB noM 60 15 (0 :: pRB) false (codeOf Try.prog 15 (0 :: pRB)) ⟨mkOv (slB g s), 107, []⟩ none ⟨mkR (rlB g s), 6⟩ (roundK 4 6 107 Inv m (slB g) (rlB g) (wsB g) s) =
  let z1 := (Row.mk (List.take (List.length g.1.3 * 1) (List.drop 0 (bCells g.1.3))) true (Ob.cells true)); let z2 := (Row.mk (gC enF (s.5.1 ++ s.5.2)) false (Ob.cells
  true)); let z7 := (Eq (α := List Value) (bCells g.1.3) (bCells g.1.3)); let z3 := ((0 = 0) /\ ((g.1.1 = g.1.1) /\ ((g.1.2 = g.1.2) /\ ((true = true) /\ (z7 /\ ((Plain
  (bCells g.1.3)) /\ ((0 = 0) /\ ((List.length (finO g).2.5.1 = List.length s.5.1) /\ (((finO g).2.5.3 = s.5.3) /\ ((Eq (α := List Value) (gC enF ((finO g).2.5.1 ++ (finO
  g).2.5.2)) (gC enF (s.5.1 ++ s.5.2))) /\ ((Plain (gC enF ((finO g).2.5.1 ++ (finO g).2.5.2))) /\ True))))))))))); let z13 := (rsC z2 (List.length s.5.1) s.5.3 (gt1 z1
  (↑s.1 : Int) (5 : Int))); let z4 := (((finO g).1 ≠ 0) /\ (((↑(finO g).1 : Int) = rsZ (gt1 z1 (↑s.1 : Int) (5 : Int))) /\ ((0 = 0) /\ ((g.1.1 = g.1.1) /\ ((g.1.2 = g.1.2)
  /\ ((true = true) /\ (z7 /\ ((Plain (bCells g.1.3)) /\ ((0 = 0) /\ ((List.length (finO g).2.5.1 = rsN z2 (List.length s.5.1) s.5.3 (gt1 z1 (↑s.1 : Int) (5 : Int))) /\
  (((finO g).2.5.3 = rsM s.5.3 (gt1 z1 (↑s.1 : Int) (5 : Int))) /\ ((Eq (α := List Value) (gC enF ((finO g).2.5.1 ++ (finO g).2.5.2)) z13) /\ ((Plain (gC enF ((finO g).2.5.1
  ++ (finO g).2.5.2))) /\ True))))))))))))); let z16 := (ryC z1 (↑s.1 : Int) z2 (List.length s.5.1) s.5.3); let z5 := ((0 = 0) /\ ((g.1.1 = g.1.1) /\ ((g.1.2 = g.1.2) /\
  ((true = true) /\ (z7 /\ ((Plain (bCells g.1.3)) /\ ((0 = 0) /\ ((List.length (finO g).2.5.1 = ryK z1 (↑s.1 : Int) z2 (List.length s.5.1) s.5.3) /\ (((finO g).2.5.3 = ryM
  z1 (↑s.1 : Int) z2 (List.length s.5.1) s.5.3) /\ ((Eq (α := List Value) (gC enF ((finO g).2.5.1 ++ (finO g).2.5.2)) z16) /\ ((Plain (gC enF ((finO g).2.5.1 ++ (finO
  g).2.5.2))) /\ True))))))))))); let z6 := (((True /\ (True /\ True)) /\ (((True /\ (True /\ True)) /\ (Plain (gC enF (s.5.1 ++ s.5.2)) /\ True)) /\ ((Plain z13 /\ True) /\
  IsTb z2 (List.length s.5.1) (szR z2 (List.length s.5.1)))))); let z8 := (ryA z1 (↑s.1 : Int) z2 (List.length s.5.1) s.5.3); let z9 := (ryB z1 (↑s.1 : Int) z2 (List.length
  s.5.1) s.5.3); let z10 := (0 + List.length g.1.3 * 1 <= List.length (bCells g.1.3) /\ Plain (List.take (List.length g.1.3 * 1) (List.drop 0 (bCells g.1.3)))); let z11 :=
  (((finO g).1 ≠ 0) /\ (((↑(finO g).1 : Int) = (6 : Int)) /\ z3)); let z12 := (((finO g).1 ≠ 0) /\ (((↑(finO g).1 : Int) = gt3 z1 (↑s.1 : Int) (5 : Int)) /\ z3)); let z14 :=
  (cellI (bCells g.1.3) (0 + Int.toNat (↑s.1 : Int) * 1)); let z15 := (rsZ (gt1 z1 (↑s.1 : Int) (5 : Int)) != (0 : Int)); (br (decide ((↑s.1 : Int) < Int.ofNat (List.length
  g.1.3))) (br (decide ((0 : Int) <= (↑s.1 : Int) /\ (↑s.1 : Int) < (↑(List.length g.1.3) : Int))) ((Eq (α := Option Value) ((bCells g.1.3)[0 + Int.toNat (↑s.1 : Int) * 1]?)
  (some (Value.int IntKind.u8 z14))) /\ (br (iand IntKind.u8 z14 (224 : Int) == (32 : Int)) ((((z10 /\ (True /\ (True /\ True))) /\ ((True /\ True) /\ (True /\ (IsB z1
  (List.length g.1.3) /\ List.length g.1.3 <= 9223372036854775807))))) /\ (br (gt3 z1 (↑s.1 : Int) (5 : Int) == (0 : Int)) (br (decide (Int.ofNat (List.length s.2) > (0 :
  Int))) (∃ y : Unit, z11) (br (s.4 == (2 : Int)) (∃ y : Unit, z11) (br (decide (gt1 z1 (↑s.1 : Int) (5 : Int) > g.1.1)) (∃ y : Unit, z11) (br (gt3 z1 (↑s.1 : Int) (5 : Int)
  == (0 : Int)) (z6 /\ (br z15 (∃ y : Unit, z4) (∃ j : St, ((Inv j) /\ ((m j < m s) /\ ((0 = 0) /\ ((0 = 0) /\ ((List.length g.1.3 = List.length g.1.3) /\ ((0 = 0) /\
  ((List.length j.2 = List.length s.2) /\ (((↑j.1 : Int) = gt2 z1 (↑s.1 : Int) (5 : Int)) /\ ((j.3 = s.3) /\ ((j.4 = IntKind.wrap IntKind.i64 (s.4 + (1 : Int))) /\ ((0 = 0)
  /\ ((g.1.1 = g.1.1) /\ ((g.1.2 = g.1.2) /\ ((g.2 = g.2) /\ (z7 /\ ((Plain (bCells g.1.3)) /\ ((0 = 0) /\ ((List.length j.5.1 = rsN z2 (List.length s.5.1) s.5.3 (gt1 z1
  (↑s.1 : Int) (5 : Int))) /\ ((j.5.3 = rsM s.5.3 (gt1 z1 (↑s.1 : Int) (5 : Int))) /\ ((Eq (α := List Value) (gC enW j.2) (gC enW s.2)) /\ ((Plain (gC enW j.2)) /\ ((Eq (α
  := List Value) (gC enF (j.5.1 ++ j.5.2)) z13) /\ ((Plain (gC enF (j.5.1 ++ j.5.2))) /\ True)))))))))))))))))))))))))) (br (gt3 z1 (↑s.1 : Int) (5 : Int) != (0 : Int)) (∃ y
  : Unit, z12) (∃ j : St, ((Inv j) /\ ((m j < m s) /\ ((0 = 0) /\ ((0 = 0) /\ ((List.length g.1.3 = List.length g.1.3) /\ ((0 = 0) /\ ((List.length j.2 = List.length s.2) /\
  (((↑j.1 : Int) = gt2 z1 (↑s.1 : Int) (5 : Int)) /\ ((j.3 = s.3) /\ ((j.4 = IntKind.wrap IntKind.i64 (s.4 + (1 : Int))) /\ ((0 = 0) /\ ((g.1.1 = g.1.1) /\ ((g.1.2 = g.1.2)
  /\ ((g.2 = g.2) /\ (z7 /\ ((Plain (bCells g.1.3)) /\ ((0 = 0) /\ ((List.length j.5.1 = List.length s.5.1) /\ ((j.5.3 = s.5.3) /\ ((Eq (α := List Value) (gC enW j.2) (gC
  enW s.2)) /\ ((Plain (gC enW j.2)) /\ ((Eq (α := List Value) (gC enF (j.5.1 ++ j.5.2)) (gC enF (s.5.1 ++ s.5.2))) /\ ((Plain (gC enF (j.5.1 ++ j.5.2))) /\
  True))))))))))))))))))))))))))))) (br (gt3 z1 (↑s.1 : Int) (5 : Int) == (0 : Int)) (z6 /\ (br z15 (∃ y : Unit, z4) (∃ j : St, ((Inv j) /\ ((m j < m s) /\ ((0 = 0) /\ ((0 =
  0) /\ ((List.length g.1.3 = List.length g.1.3) /\ ((0 = 0) /\ ((List.length j.2 = List.length s.2) /\ (((↑j.1 : Int) = gt2 z1 (↑s.1 : Int) (5 : Int)) /\ ((j.3 = s.3) /\
  ((j.4 = IntKind.wrap IntKind.i64 (s.4 + (1 : Int))) /\ ((0 = 0) /\ ((g.1.1 = g.1.1) /\ ((g.1.2 = g.1.2) /\ ((g.2 = g.2) /\ (z7 /\ ((Plain (bCells g.1.3)) /\ ((0 = 0) /\
  ((List.length j.5.1 = rsN z2 (List.length s.5.1) s.5.3 (gt1 z1 (↑s.1 : Int) (5 : Int))) /\ ((j.5.3 = rsM s.5.3 (gt1 z1 (↑s.1 : Int) (5 : Int))) /\ ((Eq (α := List Value)
  (gC enW j.2) (gC enW s.2)) /\ ((Plain (gC enW j.2)) /\ ((Eq (α := List Value) (gC enF (j.5.1 ++ j.5.2)) z13) /\ ((Plain (gC enF (j.5.1 ++ j.5.2))) /\
  True)))))))))))))))))))))))))) (br (gt3 z1 (↑s.1 : Int) (5 : Int) != (0 : Int)) (∃ y : Unit, z12) (∃ j : St, ((Inv j) /\ ((m j < m s) /\ ((0 = 0) /\ ((0 = 0) /\
  ((List.length g.1.3 = List.length g.1.3) /\ ((0 = 0) /\ ((List.length j.2 = List.length s.2) /\ (((↑j.1 : Int) = gt2 z1 (↑s.1 : Int) (5 : Int)) /\ ((j.3 = s.3) /\ ((j.4 =
  IntKind.wrap IntKind.i64 (s.4 + (1 : Int))) /\ ((0 = 0) /\ ((g.1.1 = g.1.1) /\ ((g.1.2 = g.1.2) /\ ((g.2 = g.2) /\ (z7 /\ ((Plain (bCells g.1.3)) /\ ((0 = 0) /\
  ((List.length j.5.1 = List.length s.5.1) /\ ((j.5.3 = s.5.3) /\ ((Eq (α := List Value) (gC enW j.2) (gC enW s.2)) /\ ((Plain (gC enW j.2)) /\ ((Eq (α := List Value) (gC
  enF (j.5.1 ++ j.5.2)) (gC enF (s.5.1 ++ s.5.2))) /\ ((Plain (gC enF (j.5.1 ++ j.5.2))) /\ True)))))))))))))))))))))))))))) ((((True /\ (z10 /\ (True /\ True))) /\ (((True
  /\ (True /\ (True /\ (True /\ True)))) /\ (True /\ ((True /\ (True /\ True)) /\ (Plain (gC enF (s.5.1 ++ s.5.2)) /\ True)))) /\ ((Plain z16 /\ True) /\ (IsLt z1
  (List.length g.1.3) (↑s.1 : Int) /\ IsTo z2 (List.length s.5.1) s.5.3))))) /\ (br (ryE z1 (↑s.1 : Int) z2 (List.length s.5.1) s.5.3 != (0 : Int)) (∃ y : Unit, (((finO g).1
  ≠ 0) /\ (((↑(finO g).1 : Int) = ryE z1 (↑s.1 : Int) z2 (List.length s.5.1) s.5.3) /\ z5))) (((((True /\ (True /\ True)) /\ True) /\ (True /\ (True /\ fbZ z8 z9 <=
  1000000000)))) /\ (br (decide (IntKind.wrap IntKind.i64 (s.3 + (↑(fbZ z8 z9) : Int)) > g.1.2)) (∃ y : Unit, (((finO g).1 ≠ 0) /\ (((↑(finO g).1 : Int) = (2 : Int)) /\
  z5))) (br (decide (List.length s.2 + 1 <= 16777216)) (br (decide (0 + List.length s.2 * 3 <= List.length (gC enW s.2))) (∃ j : St, ((Inv j) /\ ((m j < m s) /\ ((0 = 0) /\
  ((0 = 0) /\ ((List.length g.1.3 = List.length g.1.3) /\ ((0 = 0) /\ ((List.length j.2 = List.length s.2 + 1) /\ (((↑j.1 : Int) = ryP z1 (↑s.1 : Int) z2 (List.length s.5.1)
  s.5.3) /\ ((j.3 = IntKind.wrap IntKind.i64 (s.3 + (↑(fbZ z8 z9) : Int))) /\ ((j.4 = s.4) /\ ((0 = 0) /\ ((g.1.1 = g.1.1) /\ ((g.1.2 = g.1.2) /\ ((g.2 = g.2) /\ (z7 /\
  ((Plain (bCells g.1.3)) /\ ((0 = 0) /\ ((List.length j.5.1 = ryK z1 (↑s.1 : Int) z2 (List.length s.5.1) s.5.3) /\ ((j.5.3 = ryM z1 (↑s.1 : Int) z2 (List.length s.5.1)
  s.5.3) /\ ((Eq (α := List Value) (gC enW j.2) (List.take (List.length s.2 * 3) (List.drop 0 (gC enW s.2)) ++ [Value.string z8, Value.string z9, Value.int IntKind.i64 (ryH
  z1 (↑s.1 : Int) z2 (List.length s.5.1) s.5.3)])) /\ ((Plain (gC enW j.2)) /\ ((Eq (α := List Value) (gC enF (j.5.1 ++ j.5.2)) z16) /\ ((Plain (gC enF (j.5.1 ++ j.5.2))) /\
  True)))))))))))))))))))))))) False) False))))))) False) (∃ y : Unit, (((finO g).1 = 0) /\ ((0 = 0) /\ ((List.length (finO g).2.2 = List.length s.2) /\ ((0 = 0) /\ ((g.1.1
  = g.1.1) /\ ((g.1.2 = g.1.2) /\ ((g.2 = g.2) /\ (z7 /\ ((Plain (bCells g.1.3)) /\ ((0 = 0) /\ ((List.length (finO g).2.5.1 = List.length s.5.1) /\ (((finO g).2.5.3 =
  s.5.3) /\ ((Eq (α := List Value) (gC enW (finO g).2.2) (gC enW s.2)) /\ ((Plain (gC enW (finO g).2.2)) /\ ((Eq (α := List Value) (gC enF ((finO g).2.5.1 ++ (finO
  g).2.5.2)) (gC enF (s.5.1 ++ s.5.2))) /\ ((Plain (gC enF ((finO g).2.5.1 ++ (finO g).2.5.2))) /\ True)))))))))))))))))) := by kernel_rfl
theorem RB_vc (b : List UInt8) (top list : Int) (bad : Bool) (t u : Tb) (e : Int) (V : List Wr) (bad2 : Bool) : mcall EtRB mRB 60 15 [.pointer (some ⟨0, 0, none⟩), .slice (some ⟨1, 0, none⟩) b.length 1] ⟨mkR (nums 0 [rd1 top list bad 2, bRo b, rtC t.l.length t.most 3, gOwn enF (t.l ++ t.j)]), 4⟩ (retIsM 4 (.tuple ⟨[.slice (some ⟨4, 0, none⟩) V.length 3, .int .i64 e]⟩) 6 [(0, rd1 top list bad2 2), (1, bRo b), (2, rtC u.l.length u.most 5), (4, gOwn enW V), (5, gOwn enF (u.l ++ u.j))]) =
  (br (bad) ((List.length V = 0) /\ ((e = (1 : Int)) /\ ((0 = 0) /\ ((top = top) /\ ((list = list) /\ ((bad2 = bad) /\ ((Eq (α := List Value) (bCells b) (bCells b)) /\
  ((Plain (bCells b)) /\ ((0 = 0) /\ ((List.length u.1 = List.length t.1) /\ ((u.3 = t.3) /\ ((Eq (α := List Value) (gC enW V) ([])) /\ ((Eq (α := List Value) (gC enF (u.1
  ++ u.2)) (gC enF (t.1 ++ t.2))) /\ ((Plain (gC enF (u.1 ++ u.2))) /\ True)))))))))))))) (∃ g : GB, ((preB g) /\ ((0 = 0) /\ ((0 = 0) /\ ((List.length g.1.3 = List.length
  b) /\ ((0 = 0) /\ (((↑0 : Int) = (0 : Int)) /\ (((0 : Int) = (0 : Int)) /\ (((0 : Int) = (0 : Int)) /\ ((0 = 0) /\ ((g.1.1 = top) /\ ((g.1.2 = list) /\ ((g.2 = bad) /\
  ((Eq (α := List Value) (bCells g.1.3) (bCells b)) /\ ((Plain (bCells g.1.3)) /\ ((0 = 0) /\ ((List.length g.3.1 = List.length t.1) /\ ((g.3.3 = t.3) /\ ((Eq (α := List
  Value) ([]) ([])) /\ ((Eq (α := List Value) (gC enF (g.3.1 ++ g.3.2)) (gC enF (t.1 ++ t.2))) /\ ((Plain (gC enF (g.3.1 ++ g.3.2))) /\ (∀ (side : Bool), (br (side) (∀ (y :
  Unit), (((finO g).1 = 0) → ((0 = 0) /\ ((List.length V = List.length (finO g).2.2) /\ ((e = (0 : Int)) /\ ((0 = 0) /\ ((top = g.1.1) /\ ((list = g.1.2) /\ ((bad2 = g.2) /\
  ((Eq (α := List Value) (bCells b) (bCells g.1.3)) /\ ((Plain (bCells b)) /\ ((0 = 0) /\ ((List.length u.1 = List.length (finO g).2.5.1) /\ ((u.3 = (finO g).2.5.3) /\ ((Eq
  (α := List Value) (gC enW V) (gC enW (finO g).2.2)) /\ ((Plain (gC enW V)) /\ ((Eq (α := List Value) (gC enF (u.1 ++ u.2)) (gC enF ((finO g).2.5.1 ++ (finO g).2.5.2))) /\
  ((Plain (gC enF (u.1 ++ u.2))) /\ True)))))))))))))))))) (∀ (y : Unit), (((finO g).1 ≠ 0) → ((List.length V = 0) /\ ((e = (↑(finO g).1 : Int)) /\ ((0 = 0) /\ ((top =
  g.1.1) /\ ((list = g.1.2) /\ ((bad2 = true) /\ ((Eq (α := List Value) (bCells b) (bCells g.1.3)) /\ ((Plain (bCells b)) /\ ((0 = 0) /\ ((List.length u.1 = List.length
  (finO g).2.5.1) /\ ((u.3 = (finO g).2.5.3) /\ ((Eq (α := List Value) (gC enW V) ([])) /\ ((Eq (α := List Value) (gC enF (u.1 ++ u.2)) (gC enF ((finO g).2.5.1 ++ (finO
  g).2.5.2))) /\ ((Plain (gC enF (u.1 ++ u.2))) /\ True)))))))))))))))))))))))))))))))))))))))) := by kernel_rfl
theorem eRr_ok : EntOk Try.prog eRr := by
  intro a rows p v n' rl he hp
  simp only [eRr] at he
  split at he
  · simp only [Option.some.injEq, Prod.mk.injEq] at he
    obtain ⟨rfl, rfl, rfl, rfl⟩ := he
    rename_i w i top list bad r1 k m r3
    obtain ⟨⟨b, rfl, rfl, hb, h1, h2⟩, l, j, rfl, rfl, ho⟩ := hp
    have := Rr_con b i.toNat top list bad ⟨l, j, m⟩ hb (by omega) ho
    rw [show ((i.toNat : Nat) : Int) = i by omega] at this
    have eq : ryQ (bRo b) i (gOwn enF (l ++ j)) l.length m = rwY ⟨l, j, m⟩ b i.toNat := by unfold ryQ; rw [dB_ro, row_T]
    unfold ryA ryB ryH ryP ryE ryK ryM ryC
    simp only [sealV_eq, eq]
    exact this
  · simp at he
theorem tRB_ok : ∀ x ∈ tRB, EntOk Try.prog x := all_cons eGtR_ok (all_cons eResR_ok (all_cons eRr_ok (all_cons eFbR_ok (all_nil))))
theorem ry_mk (b : List UInt8) (i : Nat) (l j : List Fl) (m : Int) :
    ryA (bRo b) i ⟨gC enF (l ++ j), false, .cells true⟩ l.length m = bs (rwY ⟨l, j, m⟩ b i).f.n ∧ ryB (bRo b) i ⟨gC enF (l ++ j), false, .cells true⟩ l.length m = bs (rwY ⟨l, j, m⟩ b i).f.v ∧ ryH (bRo b) i ⟨gC enF (l ++ j), false, .cells true⟩ l.length m = (rwY ⟨l, j, m⟩ b i).h ∧
    ryP (bRo b) i ⟨gC enF (l ++ j), false, .cells true⟩ l.length m = ((rwY ⟨l, j, m⟩ b i).p : Nat) ∧ ryE (bRo b) i ⟨gC enF (l ++ j), false, .cells true⟩ l.length m = ((rwY ⟨l, j, m⟩ b i).e : Nat) ∧ ryK (bRo b) i ⟨gC enF (l ++ j), false, .cells true⟩ l.length m = (rwY ⟨l, j, m⟩ b i).t.l.length ∧
    ryM (bRo b) i ⟨gC enF (l ++ j), false, .cells true⟩ l.length m = (rwY ⟨l, j, m⟩ b i).t.most ∧ ryC (bRo b) i ⟨gC enF (l ++ j), false, .cells true⟩ l.length m = gC enF ((rwY ⟨l, j, m⟩ b i).t.l ++ (rwY ⟨l, j, m⟩ b i).t.j) := by
  have eq : ryQ (bRo b) i ⟨gC enF (l ++ j), false, .cells true⟩ l.length m = rwY ⟨l, j, m⟩ b i := by unfold ryQ; rw [dB_ro, show rowT ⟨gC enF (l ++ j), false, .cells true⟩ l.length m = ⟨l, j, m⟩ from row_T l j m]; rfl
  unfold ryA ryB ryH ryP ryE ryK ryM ryC
  simp only [sealV_eq, eq, and_self]
theorem and224 : ∀ c : Fin 256, (iand .u8 ((c.1 : Nat) : Int) 224 == 32) = decide (32 ≤ c.1 ∧ c.1 < 64) := by decide +kernel
theorem step_row (x : Cx) (s : St) (hc : ¬ (32 ≤ atB x.b s.i ∧ atB x.b s.i < 64)) :
    ((rwY s.t x.b s.i).e ≠ 0 → (step x s).e = (rwY s.t x.b s.i).e ∧ (step x s).s.t = (rwY s.t x.b s.i).t) ∧ ((rwY s.t x.b s.i).e = 0 → step x s = rowO x ⟨(rwY s.t x.b s.i).p, s.W, s.sum, s.sz, (rwY s.t x.b s.i).t⟩ (rwY s.t x.b s.i).f (rwY s.t x.b s.i).h) := by
  have lit : ∀ h, ((rwLi s.t x.b s.i 4 h false).e ≠ 0 → (stLi x s h).e = (rwLi s.t x.b s.i 4 h false).e ∧ (stLi x s h).s.t = (rwLi s.t x.b s.i 4 h false).t) ∧ ((rwLi s.t x.b s.i 4 h false).e = 0 → stLi x s h = rowO x ⟨(rwLi s.t x.b s.i 4 h false).p, s.W, s.sum, s.sz, (rwLi s.t x.b s.i 4 h false).t⟩ (rwLi s.t x.b s.i 4 h false).f (rwLi s.t x.b s.i 4 h false).h) := fun h => by
    unfold rwLi stLi
    by_cases g : (liR s.t.l x.b s.i 4).e ≠ 0
    · rw [if_pos g, if_pos g]; exact ⟨fun _ => ⟨rfl, rfl⟩, fun q => absurd q g⟩
    · rw [if_neg g, if_neg g]; exact ⟨fun q => absurd rfl q, fun _ => rfl⟩
  unfold rwY step
  by_cases c1 : 128 ≤ atB x.b s.i
  · rw [if_pos c1, if_pos c1]
    unfold rwIx stIx
    by_cases g : (nuR x.b s.i 7).e ≠ 0
    · rw [if_pos g, if_pos g]; exact ⟨fun _ => ⟨rfl, rfl⟩, fun q => absurd q g⟩
    rw [if_neg g, if_neg g]
    by_cases g2 : (getF s.t.l ((nuR x.b s.i 7).v : Nat)).2 = false
    · rw [if_pos g2, if_pos g2]; exact ⟨fun _ => ⟨rfl, rfl⟩, fun q => by simp at q⟩
    · rw [if_neg g2, if_neg g2]
      refine ⟨fun q => absurd rfl q, fun _ => ?_⟩
      simp only [nuT_p x.b s.i 7 (by omega)]
  rw [if_neg c1, if_neg c1]
  by_cases c2 : 64 ≤ atB x.b s.i
  · rw [if_pos c2, if_pos c2]
    unfold rwLi stAd
    by_cases g : (liR s.t.l x.b s.i 6).e ≠ 0
    · rw [if_pos g, if_pos g]; exact ⟨fun _ => ⟨rfl, rfl⟩, fun q => absurd q g⟩
    · rw [if_neg g, if_neg g]; exact ⟨fun q => absurd rfl q, fun _ => rfl⟩
  rw [if_neg c2, if_neg c2, if_neg (c := 32 ≤ atB x.b s.i) (by omega)]
  by_cases c3 : 16 ≤ atB x.b s.i
  · rw [if_pos c3, if_pos c3]; exact lit 3
  · rw [if_neg c3, if_neg c3]; exact lit 2
theorem rw_fb (t : Tb) (b : List UInt8) (i : Nat) (h : smN t.l ≤ 65536) : fbN (rwY t b i).f ≤ 1000000 := by
  have lit : ∀ n hh ad, fbN (rwLi t b i n hh ad).f ≤ 1000000 := fun n hh ad => by
    unfold rwLi
    split
    · show fbN no0 ≤ _; decide
    · exact fb_lit t.l b i n h
  unfold rwY
  split
  · unfold rwIx
    have := fb_get t.l ((nuR b i 7).v : Nat) h
    simp only; omega
  · split
    · exact lit _ _ _
    · split <;> exact lit _ _ _
theorem wK3 (w : Wr) : (enW w).length = 3 := rfl
theorem z_rsZ (k : Int) : rsZ k = rsE k := Classical.choose_spec (in_ex _)
theorem z_rsM (m k : Int) : rsM m k = if k < 0 ∨ k > 65536 then m else k := Classical.choose_spec (in_ex _)
theorem RB_piece : PieceOk EtRB 4 (15, pRB, specRB) := by
  refine piece_loop tk.mixed (calls_envT tRB_ok) (lok_envT _ _) lm_none (n := 60) (by kernel_rfl) (fun g : GB => st0 g.t) invB (fun g s => g.x.b.length - s.i) (sl := slB) (rl := rlB) (fun g hg => ⟨⟨Nat.zero_le _, ⟨hg.2.2.2.2.1, hg.2.2.2.2.2⟩, Int.le_refl _, hg.2.2.1, Int.le_refl _, by show (0 : Int) ≤ 2; omega, Nat.le_refl _⟩, _, by show g.x.b.length ≤ 0 + g.x.b.length; omega, by unfold finO; rw [sealV_eq]⟩) (fun g s hg hi => ?_)
  refine (RB_round g s _ _).mpr ?_
  obtain ⟨i, W, sum, sz, ⟨tl, tj, tm⟩⟩ := s
  obtain ⟨⟨top, list, b⟩, bad, ⟨gl, gj, gm⟩⟩ := g
  obtain ⟨⟨h1, ⟨h2, h3⟩, h4, h5, h6, h7, h8⟩, k, hk, hr⟩ := hi
  obtain ⟨p1, p2, p3, p4, p5, p6⟩ := hg
  simp only at h1 h2 h3 h4 h5 h6 h7 h8 hk hr p1 p2 p3 p4 p5 p6
  obtain ⟨n1, n2, n3⟩ := gq_mk b i 5
  have c5 : ((5 : Nat) : Int) = 5 := rfl
  rw [c5] at n1 n2 n3
  obtain ⟨y1, y2, y3, y4, y5, y6, y7, y8⟩ := ry_mk b i tl tj tm
  have pb := bCells_plain b
  have hm : maxLen = 9223372036854775807 := by unfold maxLen; rfl
  have hB : IsB (bRo b) b.length := ⟨b, rfl, rfl⟩
  have sl : smN tl ≤ 65536 := by obtain ⟨o1, _, o3⟩ := h2; simp only at o1 o3; omega
  have hl : tl.length ≤ 16777215 := by have := ok_len tl; omega
  have sz' := sz_mk tl tj false (.cells true) tl.length (Nat.le_refl _)
  rw [List.take_length] at sz'
  have hTb : IsTb ⟨gC enF (tl ++ tj), false, .cells true⟩ tl.length (smN tl : Nat) := ⟨tl, tj, rfl, rfl, rfl, hl, by omega⟩
  have hTo : IsTo ⟨gC enF (tl ++ tj), false, .cells true⟩ tl.length tm := ⟨tl, tj, rfl, rfl, h2⟩
  simp only [ofNat_eq, toNat_cast, Nat.zero_add, Nat.add_zero, Nat.mul_one, List.drop_zero, bCells_len, bCells_drop, bCells_take, bCells_app, bCells_one, bCells_plain, List.length_replicate, List.length_append, List.length_take, List.length_drop, List.take_length, and_true, true_and, and_self, decide_true, List.length_nil, List.length_cons, Nat.sub_zero, dB_mk, dB_ro, List.take_zero, Nat.mul_one, List.drop_zero, bTake, bRo_eq, n1, n2, n3, y1, y2, y3, y4, y5, y6, y7, y8, (rs_mk tl tj tm _).1, (rs_mk tl tj tm _).2.2, sz', hTb, hTo, hB, z_fbZ, bCells_len, Nat.zero_add, pb, plW, fPl, Nat.le_refl, and_true, true_and]
  have hfin : ∀ {X : Cx} {S : St}, X = ⟨top, list, b⟩ → S = ⟨i, W, sum, sz, ⟨tl, tj, tm⟩⟩ → i < b.length → (step X S).e ≠ 0 → finO ⟨⟨top, list, b⟩, bad, ⟨gl, gj, gm⟩⟩ = step X S := by
    rintro X S rfl rfl h0 hne
    rw [← hr]
    obtain ⟨q, rfl⟩ : ∃ q, k = q + 1 := ⟨k - 1, by omega⟩
    rw [runO, if_neg (by simp only; omega), if_pos hne]
  have hgo : ∀ {X : Cx} {S : St}, X = ⟨top, list, b⟩ → S = ⟨i, W, sum, sz, ⟨tl, tj, tm⟩⟩ → i < b.length → (step X S).e = 0 → invB ⟨⟨top, list, b⟩, bad, ⟨gl, gj, gm⟩⟩ (step X S).s ∧ b.length - (step X S).s.i < b.length - i := by
    rintro X S rfl rfl h0 hne
    obtain ⟨v1, v2⟩ := step_iv ⟨top, list, b⟩ ⟨i, W, sum, sz, ⟨tl, tj, tm⟩⟩ ⟨h1, ⟨h2, h3⟩, h4, h5, h6, h7, h8⟩ hne
    have v3 := v1.1
    simp only at v2 v3
    obtain ⟨q, rfl⟩ : ∃ q, k = q + 1 := ⟨k - 1, by omega⟩
    rw [runO, if_neg (by simp only; omega), if_neg (by omega)] at hr
    exact ⟨⟨v1, q, by simp only; omega, hr⟩, by omega⟩
  by_cases h0 : ¬ i < b.length
  · refine br_nd (by omega) ?_
    have hz : finO ⟨⟨top, list, b⟩, bad, ⟨gl, gj, gm⟩⟩ = ⟨0, ⟨i, W, sum, sz, ⟨tl, tj, tm⟩⟩⟩ := by
      rw [← hr]
      cases k with
      | zero => rfl
      | succ q => rw [runO, if_pos (by simp only; omega)]
    rw [hz]
    exact ⟨(), rfl, rfl, rfl, rfl, rfl, rfl⟩
  replace h0 : i < b.length := Decidable.not_not.1 h0
  obtain ⟨X, hX⟩ : ∃ X, X = (⟨top, list, b⟩ : Cx) := ⟨_, rfl⟩
  obtain ⟨S, hS⟩ : ∃ S, S = (⟨i, W, sum, sz, ⟨tl, tj, tm⟩⟩ : St) := ⟨_, rfl⟩
  replace hfin := fun h => hfin hX hS h0 h
  replace hgo := fun h => hgo hX hS h0 h
  have ec : cellI (bCells b) i = (atB b i : Nat) := bCells_cell h0
  have hc := atB_lt b i
  refine br_dec (by omega) (br_dec (by omega) ⟨bCells_at h0, ?_⟩)
  rw [ec, and224 ⟨atB b i, hc⟩]
  have hsi : (32 ≤ atB b i ∧ atB b i < 64) → step X S = stSi X S := by
    rintro ⟨a1, a2⟩
    subst hX hS
    unfold step
    simp only
    rw [if_neg (by omega), if_neg (by omega), if_pos a1]
  have hro : ¬ (32 ≤ atB b i ∧ atB b i < 64) → _ := fun h => step_row X S (by subst hX hS; exact h)
  have eT : X.b = b ∧ S.i = i ∧ S.t = ⟨tl, tj, tm⟩ ∧ S.W = W ∧ S.sum = sum ∧ S.sz = sz ∧ X.top = top ∧ X.list = list := by subst hX hS; exact ⟨rfl, rfl, rfl, rfl, rfl, rfl, rfl, rfl⟩
  obtain ⟨t1, t2, t3, t4, t5, t6, t7, t8⟩ := eT
  rw [t1, t2, t3, t4, t5, t6] at hro
  clear hX hS
  generalize finO ⟨⟨top, list, b⟩, bad, ⟨gl, gj, gm⟩⟩ = F at *
  refine br_intro (fun hs => ?_) (fun hs => ?_)
  · replace hsi := hsi (of_decide_eq_true hs)
    rw [hsi] at hfin hgo
    unfold stSi at hfin hgo
    simp only [t1, t2, t3, t4, t5, t6, t7] at hfin hgo
    refine ⟨by omega, ?_⟩
    by_cases g1 : (nuR b i 5).e ≠ 0
    · have es : siR b i W.length sz top = ⟨(nuR b i 5).e, i, ()⟩ := if_pos g1
      have et : siT b i W.length sz top ⟨tl, tj, tm⟩ = ⟨tl, tj, tm⟩ := by unfold siT; rw [es]; exact if_neg g1
      rw [hfin (by rw [es]; exact g1), es, et]
      exact br_nb (by simp; omega) (br_nb (by simp; omega) (br_b (by simp; omega) ⟨(), g1, rfl, rfl, rfl, rfl⟩))
    have bad6 : ¬ (W.length = 0 ∧ sz < 2 ∧ ((nuR b i 5).v : Int) ≤ top) → F = ⟨6, ⟨(nuR b i 5).p, W, sum, sz, ⟨tl, tj, tm⟩⟩⟩ := fun h => by
      have es : siR b i W.length sz top = ⟨6, (nuR b i 5).p, ()⟩ := by unfold siR; rw [if_neg g1, if_neg h]
      have et : siT b i W.length sz top ⟨tl, tj, tm⟩ = ⟨tl, tj, tm⟩ := by unfold siT; rw [es]; exact if_neg (by simp)
      have ez : siZ b i W.length sz top = sz := by unfold siZ; rw [es]; exact if_neg (by simp)
      rw [hfin (by rw [es]; simp), es, et, ez]
    refine br_b (by simp; omega) ?_
    by_cases g2 : W.length > 0
    · rw [bad6 (by omega)]
      exact br_dec (by omega) ⟨(), by simp, rfl, rfl, rfl, rfl⟩
    refine br_nd (by omega) ?_
    by_cases g3 : sz = 2
    · rw [bad6 (by omega)]
      exact br_b (by simp [g3]) ⟨(), by simp, rfl, rfl, rfl, rfl⟩
    refine br_nb (by simp; omega) ?_
    by_cases g4 : ((nuR b i 5).v : Int) > top
    · rw [bad6 (by omega)]
      exact br_dec (by omega) ⟨(), by simp, rfl, rfl, rfl, rfl⟩
    refine br_nd (by omega) (br_b (by simp; omega) ?_)
    have es : siR b i W.length sz top = ⟨0, (nuR b i 5).p, ()⟩ := by unfold siR; rw [if_neg g1, if_pos (by omega)]
    have et : siT b i W.length sz top ⟨tl, tj, tm⟩ = rsT ⟨tl, tj, tm⟩ ((nuR b i 5).v : Nat) := by unfold siT; rw [es]; exact if_pos rfl
    have ez : siZ b i W.length sz top = sz + 1 := by unfold siZ; rw [es]; exact if_pos rfl
    have e0 : rsZ ((nuR b i 5).v : Nat) = 0 := by rw [z_rsZ]; exact if_neg (by omega)
    obtain ⟨v1, v2⟩ := hgo (by rw [es])
    refine br_nb (by rw [e0]; rfl) ⟨_, v1, v2, rfl, ?_, rfl, ?_, ?_, ?_, rfl, ?_⟩
    · simp only; rw [es, nuT_p b i 5 (by omega)]
    · simp only; rw [ez, wr64_id (by unfold I64; omega)]
    · simp only; rw [et]
    · simp only; rw [et, rsT_m, z_rsM]
    · simp only; rw [et]
  · replace hro := hro (of_decide_eq_false hs)
    obtain ⟨r1, r2⟩ := hro
    have fb := rw_fb ⟨tl, tj, tm⟩ b i sl
    generalize rwY ⟨tl, tj, tm⟩ b i = Y at *
    refine ⟨⟨b, rfl, rfl, p1, by omega, by omega⟩, ?_⟩
    have hL : ∀ x y : List UInt8, fbN ⟨L (bs x), L (bs y)⟩ = fbN ⟨x, y⟩ := fun x y => by rw [L_bs, L_bs]
    rw [hL]
    have wS : IntKind.i64.wrap (sum + ((fbN ⟨Y.f.n, Y.f.v⟩ : Nat) : Int)) = sum + ((fbN Y.f : Nat) : Int) := by rw [wr64_id (by unfold I64; have : fbN ⟨Y.f.n, Y.f.v⟩ = fbN Y.f := rfl; omega)]
    rw [wS]
    by_cases he : Y.e ≠ 0
    · obtain ⟨q1, q2⟩ := r1 he
      rw [hfin (by omega)]
      refine br_b (by simp; omega) ⟨(), by omega, by rw [q1], by rw [q2], by rw [q2], by rw [q2]⟩
    · refine br_nb (by simp; omega) ⟨by have : fbN ⟨Y.f.n, Y.f.v⟩ = fbN Y.f := rfl; omega, ?_⟩
      have rr := r2 (by omega)
      by_cases hl2 : list < sum + (fbN Y.f : Nat)
      · have e2 : (step X S).e = 2 ∧ (step X S).s.t = Y.t := by
          rw [rr]; unfold rowO roS; rw [t8]; exact ⟨if_pos hl2, rfl⟩
        rw [hfin (by omega)]
        exact br_dec (by omega) ⟨(), by omega, by rw [e2.1]; rfl, by rw [e2.2], by rw [e2.2], by rw [e2.2]⟩
      · have e2 : step X S = ⟨0, ⟨Y.p, W ++ [⟨Y.f, Y.h⟩], sum + (fbN Y.f : Nat), sz, Y.t⟩⟩ := by
          rw [rr]; unfold rowO roS roW roS; rw [t8]; simp only; rw [if_neg hl2, if_neg hl2]
        rw [e2] at hgo
        obtain ⟨v1, v2⟩ := hgo rfl
        have hW : W.length ≤ 1048576 := by omega
        have gl : (gC enW W).length = W.length * 3 := gC_len wK3 W
        refine br_nd (by omega) (br_dec (by omega) (br_dec (by omega) ⟨_, v1, v2, by simp, rfl, rfl, rfl, rfl, rfl, ?_, rfl⟩))
        rw [List.take_of_length_le (by omega)]; simp only; rw [← gC_app]; rfl
theorem RB_con (x : Cx) (bad : Bool) (t : Tb) (h1 : x.b.length ≤ 1048576) (h2 : Ok t) (h3 : TopP x.top x.list t.most) :
    ConM Try.prog 15 [.pointer (some ⟨0, 0, none⟩), .slice (some ⟨1, 0, none⟩) x.b.length 1] [rd1 x.top x.list bad 2, bRo x.b, rtC t.l.length t.most 3, gOwn enF (t.l ++ t.j)] (.tuple ⟨[.slice (some ⟨4, 0, none⟩) (upW x bad t).length 3, .int .i64 (upE x bad t : Nat)]⟩) 6 [(0, rd1 x.top x.list (upB x bad t) 2), (1, bRo x.b), (2, rtC (upT x bad t).l.length (upT x bad t).most 5), (4, gOwn enW (upW x bad t)), (5, gOwn enF ((upT x bad t).l ++ (upT x bad t).j))] := by
  refine conM_vc (E := EtRB) tk.mixed (calls_envT tRB_ok) (lok_envT _ _) (M := mRB) (lm_one RB_piece) (RB_vc x.b x.top x.list bad t (upT x bad t) _ (upW x bad t) _) ?_
  simp only [ofNat_eq, toNat_cast, Nat.zero_add, Nat.add_zero, Nat.mul_one, List.drop_zero, bCells_len, bCells_drop, bCells_take, bCells_app, bCells_one, bCells_plain, List.length_replicate, List.length_append, List.length_take, List.length_drop, List.take_length, and_true, true_and, and_self, decide_true, List.length_nil, List.length_cons, Nat.sub_zero, dB_mk, dB_ro, List.take_zero, bCells_plain, plW, fPl, Nat.le_refl, and_true, true_and]
  have hf : finO ⟨x, bad, t⟩ = blO x t := by unfold finO; rw [sealV_eq]; rfl
  refine br_intro (fun hb => ?_) (fun hb => ⟨⟨x, bad, t⟩, ⟨h1, h3.1, h3.2.1, h3.2.2.1, h2, h3.2.2.2⟩, rfl, rfl, rfl, rfl, rfl, rfl, rfl, rfl, fun side => ?_⟩)
  · subst hb
    simp [upE, upW, upT, upB, gC]
  · subst hb
    rw [hf]
    refine br_intro (fun _ _ he => ?_) (fun _ _ he => ?_)
    · simp [upE, upW, upT, upB, he, isOk]
    · simp [upE, upW, upT, upB, he, isOk, gC]
end Go.Proofs.Ytellbmbklfbbfaa.up
