/- How a block is written. -/
import Derived.Test.YtlkinjlbaeigdaaSz9
import Derived.Test.YtlkinjlbaeigdaaRows
import Derived.Test.YtlkinjlbaeigdaaLpkB
set_option maxRecDepth 20000
set_option linter.unusedSimpArgs false
set_option linter.unusedVariables false
namespace Go.Proofs.Ytlkinjlbaeigdaa.pk
open Go Go.Ev Go.Sy Go.RowKit Go.Proofs.Ytlkinjlbaeigdaa.gl Go.Proofs.Ytlkinjlbaeigdaa.tk Go.Proofs.Ytlkinjlbaeigdaa.hf Go.Proofs.Ytlkinjlbaeigdaa.s3 Go.Proofs.Ytlkinjlbaeigdaa.tb Go.Proofs.Ytlkinjlbaeigdaa.sh
structure Wr where
  f : Fl
  h : Int
def enW (w : Wr) : List Value := [.string (bs w.f.n), .string (bs w.f.v), .int .i64 w.h]
theorem wn_ex (f : Row → Nat → Int → ByteArray → ByteArray → Int → Nat) : ∃ g, g = f := ⟨f, rfl⟩
theorem wi_ex (f : Row → Nat → Int → ByteArray → ByteArray → Int → Int) : ∃ g, g = f := ⟨f, rfl⟩
theorem wc_ex (f : Row → Nat → Int → ByteArray → ByteArray → Int → List Value) : ∃ g, g = f := ⟨f, rfl⟩
noncomputable def rwN : Row → Nat → Int → ByteArray → ByteArray → Int → Nat := Classical.choose (wn_ex fun r n m a b h => (rowL (rowT r n m) ⟨L a, L b⟩ h).length)
noncomputable def rwC : Row → Nat → Int → ByteArray → ByteArray → Int → List Value := Classical.choose (wc_ex fun r n m a b h => bCells (rowL (rowT r n m) ⟨L a, L b⟩ h))
noncomputable def ruN : Row → Nat → Int → ByteArray → ByteArray → Int → Nat := Classical.choose (wn_ex fun r n m a b h => (rowU (rowT r n m) ⟨L a, L b⟩ h).l.length)
noncomputable def ruS : Row → Nat → Int → ByteArray → ByteArray → Int → Int := Classical.choose (wi_ex fun r n m a b h => (smN (rowU (rowT r n m) ⟨L a, L b⟩ h).l : Nat))
noncomputable def ruC : Row → Nat → Int → ByteArray → ByteArray → Int → List Value := Classical.choose (wc_ex fun r n m a b h => gC enF ((rowU (rowT r n m) ⟨L a, L b⟩ h).l ++ (rowU (rowT r n m) ⟨L a, L b⟩ h).j))
def IsTk (r : Row) (n : Nat) (s m : Int) : Prop := ∃ l j : List Fl, r = gOwn enF (l ++ j) ∧ n = l.length ∧ s = (smN l : Nat) ∧ Ok ⟨l, j, m⟩
noncomputable def eRow : EntM := (29, fun a r => match a, r with
  | [.pointer (some ⟨0, 0, none⟩), .agg ⟨[.string x, .string y, .int .i64 h]⟩], [⟨[.pointer (some ⟨1, 0, none⟩), .bool b, .int .i64 k], false, .cells false⟩, ⟨[.slice (some ⟨2, 0, none⟩) n 2, .int .i64 s, .int .i64 m], false, .cells false⟩, r2] =>
    some (IsTk r2 n s m ∧ (L x).length ≤ 1048576 ∧ (L y).length ≤ 1048576, .slice (some ⟨4, 0, none⟩) (rwN r2 n m x y h) 1, 5, [(0, ⟨[.pointer (some ⟨1, 0, none⟩), .bool b, .int .i64 k], false, .cells false⟩), (1, ⟨[.slice (some ⟨3, 0, none⟩) (ruN r2 n m x y h) 2, .int .i64 (ruS r2 n m x y h), .int .i64 m], false, .cells false⟩), (3, ⟨ruC r2 n m x y h, false, .cells true⟩), (4, ⟨rwC r2 n m x y h, false, .cells true⟩)])
  | _, _ => none)
noncomputable def tBk : List EntM := [eRow, ePt]
noncomputable abbrev EtBk : Env := envT Try.prog tBk
noncomputable def blk : List Wr → Tb → List UInt8 × Tb
  | [], t => ([], t)
  | w :: l, t => (rowL t w.f w.h ++ (blk l (rowU t w.f w.h)).1, (blk l (rowU t w.f w.h)).2)
def szs (m : Int) (b : Bool) (k : Int) : List UInt8 := if b then (if m > k then putB 32 5 k.toNat else []) ++ putB 32 5 m.toNat else []
def wSum (l : List Wr) : Nat := (l.map fun w => fbN w.f).sum
structure GBk where
  l : List Wr
  t : Tb
  k : Int
  o : List UInt8
structure SBk where
  i : Nat
  t : Tb
  o : List UInt8
def pBk : List Nat := [0, 1, 0, 1, 1]
noncomputable def slBk (g : GBk) (s : SBk) : List (Nat × Value) := [(0, .pointer (some ⟨0, 0, none⟩)), (5, .slice (some ⟨5, 0, none⟩) s.o.length 1), (10, .slice (some ⟨1, 0, none⟩) g.l.length 3), (11, .int .i64 (g.l.length : Nat)), (12, .int .i64 (s.i : Nat))]
noncomputable def rlBk (g : GBk) (s : SBk) : List (Nat × Row) := [(0, ⟨[.pointer (some ⟨2, 0, none⟩), .bool false, .int .i64 g.k], false, .cells false⟩), (1, gRo enW g.l), (2, ⟨[.slice (some ⟨4, 0, none⟩) s.t.l.length 2, .int .i64 (smZ s.t.l s.t.l.length : Nat), .int .i64 s.t.most], false, .cells false⟩), (4, gOwn enF (s.t.l ++ s.t.j)), (5, bOwn s.o)]
noncomputable def wsBk (g : GBk) : List (Gate SBk) := [⟨.exit 0, fun s => s.t = (blk g.l g.t).2 ∧ s.o = g.o ++ (blk g.l g.t).1, fun s => slBk g s, fun s => rlBk g s, 6⟩]
noncomputable def specBk : Sy.Spec := specOf 4 6 23 (fun g : GBk => Ok g.t ∧ wSum g.l ≤ 1000000 ∧ g.o.length ≤ 100) (fun g => slBk g ⟨0, g.t, g.o⟩) (fun g => rlBk g ⟨0, g.t, g.o⟩) wsBk
noncomputable def mBk := mOf [(10, pBk, specBk)]
theorem Bk_round (g : GBk) (s : SBk) (Inv : SBk → Prop) (m : SBk → Nat) : mev EtBk noM 60 10 (0 :: pBk) false (codeOf Try.prog 10 (0 :: pBk)) ⟨mkOv (slBk g s), 23, []⟩ none ⟨mkR (rlBk g s), 6⟩ (roundK 4 6 23 Inv m (slBk g) (rlBk g) (wsBk g) s) =
  let z1 := (cellI (gC enW g.1) (0 + Int.toNat (↑s.1 : Int) * 3 + 1 + 1)); let z2 := (cellS (gC enW g.1) (0 + Int.toNat (↑s.1 : Int) * 3 + 1)); let z3 := (Row.mk (gC enF
  (s.2.1 ++ s.2.2)) false (Ob.cells true)); let z4 := (cellS (gC enW g.1) (0 + Int.toNat (↑s.1 : Int) * 3)); let z5 := ((↑(List.length g.1) : Int) = (↑(List.length g.1) :
  Int)); let z6 := (Eq (α := List Value) (gC enW g.1) (gC enW g.1)); let z7 := (List.drop 0 (rwC z3 (List.length s.2.1) s.2.3 z4 z2 z1)); let z8 := (rwN z3 (List.length
  s.2.1) s.2.3 z4 z2 z1 * 1); (br (decide ((↑s.1 : Int) < (↑(List.length g.1) : Int))) (br (decide ((0 : Int) <= (↑s.1 : Int) /\ (↑s.1 : Int) < (↑(List.length g.1) : Int)))
  ((Eq (α := Option Value) ((gC enW g.1)[0 + Int.toNat (↑s.1 : Int) * 3]?) (some (Value.string z4))) /\ ((Eq (α := Option Value) ((gC enW g.1)[0 + Int.toNat (↑s.1 : Int) * 3
  + 1]?) (some (Value.string z2))) /\ ((Eq (α := Option Value) ((gC enW g.1)[0 + Int.toNat (↑s.1 : Int) * 3 + 1 + 1]?) (some (Value.int IntKind.i64 z1))) /\ ((((True /\
  ((True /\ (True /\ (True /\ True))) /\ True)) /\ (((True /\ (True /\ (True /\ True))) /\ ((True /\ (True /\ (True /\ True))) /\ (Plain (gC enF (s.2.1 ++ s.2.2)) /\ True)))
  /\ ((Plain (ruC z3 (List.length s.2.1) s.2.3 z4 z2 z1) /\ (Plain (rwC z3 (List.length s.2.1) s.2.3 z4 z2 z1) /\ True)) /\ (IsTk z3 (List.length s.2.1) (↑(smZ s.2.1
  (List.length s.2.1)) : Int) s.2.3 /\ (List.length (L z4) <= 1048576 /\ List.length (L z2) <= 1048576)))))) /\ (br (decide (0 + rwN z3 (List.length s.2.1) s.2.3 z4 z2 z1 *
  1 <= List.length (rwC z3 (List.length s.2.1) s.2.3 z4 z2 z1))) (br (allOne (List.take z8 z7)) (br (decide (List.length s.3 + rwN z3 (List.length s.2.1) s.2.3 z4 z2 z1 <=
  16777216)) (br (decide (0 < List.length s.3 + rwN z3 (List.length s.2.1) s.2.3 z4 z2 z1 ∨ List.length (bCells s.3) = 0)) (br (decide (0 + List.length s.3 * 1 <=
  List.length (bCells s.3))) (∃ j : SBk, ((Inv j) /\ ((m j < m s) /\ ((0 = 0) /\ ((0 = 0) /\ ((List.length j.3 = List.length s.3 + rwN z3 (List.length s.2.1) s.2.3 z4 z2 z1)
  /\ ((0 = 0) /\ ((List.length g.1 = List.length g.1) /\ (z5 /\ (((↑j.1 : Int) = IntKind.wrap IntKind.i64 ((↑s.1 : Int) + (1 : Int))) /\ ((0 = 0) /\ ((false = false) /\
  ((g.3 = g.3) /\ (z6 /\ ((Plain (gC enW g.1)) /\ ((0 = 0) /\ ((List.length j.2.1 = ruN z3 (List.length s.2.1) s.2.3 z4 z2 z1) /\ (((↑(smZ j.2.1 (List.length j.2.1)) : Int)
  = ruS z3 (List.length s.2.1) s.2.3 z4 z2 z1) /\ ((j.2.3 = s.2.3) /\ ((Eq (α := List Value) (gC enF (j.2.1 ++ j.2.2)) (ruC z3 (List.length s.2.1) s.2.3 z4 z2 z1)) /\
  ((Plain (gC enF (j.2.1 ++ j.2.2))) /\ ((Eq (α := List Value) (bCells j.3) (List.take (List.length s.3 * 1) (List.drop 0 (bCells s.3)) ++ List.take z8 z7)) /\ ((Plain
  (bCells j.3)) /\ True))))))))))))))))))))))) False) (∃ j : SBk, ((Inv j) /\ ((m j < m s) /\ ((0 = 0) /\ ((0 = 0) /\ ((List.length j.3 = List.length s.3) /\ ((0 = 0) /\
  ((List.length g.1 = List.length g.1) /\ (z5 /\ (((↑j.1 : Int) = IntKind.wrap IntKind.i64 ((↑s.1 : Int) + (1 : Int))) /\ ((0 = 0) /\ ((false = false) /\ ((g.3 = g.3) /\ (z6
  /\ ((Plain (gC enW g.1)) /\ ((0 = 0) /\ ((List.length j.2.1 = ruN z3 (List.length s.2.1) s.2.3 z4 z2 z1) /\ (((↑(smZ j.2.1 (List.length j.2.1)) : Int) = ruS z3
  (List.length s.2.1) s.2.3 z4 z2 z1) /\ ((j.2.3 = s.2.3) /\ ((Eq (α := List Value) (gC enF (j.2.1 ++ j.2.2)) (ruC z3 (List.length s.2.1) s.2.3 z4 z2 z1)) /\ ((Plain (gC enF
  (j.2.1 ++ j.2.2))) /\ ((Eq (α := List Value) (bCells j.3) (bCells s.3)) /\ ((Plain (bCells j.3)) /\ True)))))))))))))))))))))))) False) False) False))))) False) (∃ y :
  SBk, (((SBk.t y = Prod.snd (blk (GBk.l g) (GBk.t g)) /\ Eq (α := List UInt8) (y.3) (g.4 ++ (blk g.1 (GBk.t g)).1))) /\ ((0 = 0) /\ ((0 = 0) /\ ((List.length y.3 =
  List.length s.3) /\ ((0 = 0) /\ ((List.length g.1 = List.length g.1) /\ (z5 /\ (((↑y.1 : Int) = (↑s.1 : Int)) /\ ((0 = 0) /\ ((false = false) /\ ((g.3 = g.3) /\ (z6 /\
  ((Plain (gC enW g.1)) /\ ((0 = 0) /\ ((List.length y.2.1 = List.length s.2.1) /\ (((↑(smZ y.2.1 (List.length y.2.1)) : Int) = (↑(smZ s.2.1 (List.length s.2.1)) : Int)) /\
  ((y.2.3 = s.2.3) /\ ((Eq (α := List Value) (gC enF (y.2.1 ++ y.2.2)) (gC enF (s.2.1 ++ s.2.2))) /\ ((Plain (gC enF (y.2.1 ++ y.2.2))) /\ ((Eq (α := List Value) (bCells
  y.3) (bCells s.3)) /\ ((Plain (bCells y.3)) /\ True))))))))))))))))))))))) := by kernel_rfl
theorem Bk_vc (t u : Tb) (l : List Wr) (b : Bool) (k s s0 : Int) (o : List UInt8) : mcall EtBk mBk 60 10 [.pointer (some ⟨0, 0, none⟩), .slice (some ⟨1, 0, none⟩) l.length 3] ⟨mkR (nums 0 [⟨[.pointer (some ⟨2, 0, none⟩), .bool b, .int .i64 k], false, .cells false⟩, gRo enW l, tcR t.l.length s0 t.most 3, gOwn enF (t.l ++ t.j)]), 4⟩ (retIsM 4 (slc 5 o.length) 6 [(0, ⟨[.pointer (some ⟨2, 0, none⟩), .bool false, .int .i64 k], false, .cells false⟩), (1, gRo enW l), (2, tcR u.l.length s u.most 4), (4, gOwn enF (u.l ++ u.j)), (5, bOwn o)]) =
  let z5 := (ptC (Row.mk [] true (Ob.cells true)) (5 : Int) (32 : Int) k); let z1 := (List.take (ptN (Row.mk [] true (Ob.cells true)) (5 : Int) (32 : Int) k * 1) (List.drop
  0 z5)); let z2 := (IsB (Row.mk [] true (Ob.cells true)) 0 /\ (((0 : Int) <= (32 : Int) /\ (32 : Int) < (256 : Int)) /\ 0 <= 16776000)); let z3 := (ptC (Row.mk z1 true
  (Ob.cells true)) (5 : Int) (32 : Int) t.3); let z4 := (ptC (Row.mk [] true (Ob.cells true)) (5 : Int) (32 : Int) t.3); (br (!b) (∃ g : GBk, ((Ok (GBk.t g) /\ wSum g.1 <=
  1000000 /\ List.length g.4 <= 100) /\ ((0 = 0) /\ ((List.length g.4 = 0) /\ ((0 = 0) /\ ((List.length g.1 = List.length l) /\ (((↑(List.length g.1) : Int) = Int.ofNat
  (List.length l)) /\ (((↑0 : Int) = (0 : Int)) /\ ((0 = 0) /\ ((false = b) /\ ((g.3 = k) /\ ((Eq (α := List Value) (gC enW g.1) (gC enW l)) /\ ((Plain (gC enW g.1)) /\ ((0
  = 0) /\ ((List.length g.2.1 = List.length t.1) /\ (((↑(smZ g.2.1 (List.length g.2.1)) : Int) = s0) /\ ((g.2.3 = t.3) /\ ((Eq (α := List Value) (gC enF (g.2.1 ++ g.2.2))
  (gC enF (t.1 ++ t.2))) /\ ((Plain (gC enF (g.2.1 ++ g.2.2))) /\ ((Eq (α := List Value) (bCells g.4) ([])) /\ (∀ (y : SBk), ((SBk.t y = Prod.snd (blk (GBk.l g) (GBk.t g))
  /\ y.3 = g.4 ++ (blk g.1 (GBk.t g)).1) → ((0 = 0) /\ ((List.length o = List.length y.3) /\ ((0 = 0) /\ ((false = false) /\ ((k = g.3) /\ ((Eq (α := List Value) (gC enW l)
  (gC enW g.1)) /\ ((Plain (gC enW l)) /\ ((0 = 0) /\ ((List.length u.1 = List.length y.2.1) /\ ((s = (↑(smZ y.2.1 (List.length y.2.1)) : Int)) /\ ((u.3 = y.2.3) /\ ((Eq (α
  := List Value) (gC enF (u.1 ++ u.2)) (gC enF (y.2.1 ++ y.2.2))) /\ ((Plain (gC enF (u.1 ++ u.2))) /\ ((Eq (α := List Value) (bCells o) (bCells y.3)) /\ ((Plain (bCells o))
  /\ True))))))))))))))))))))))))))))))))))))) (br (decide (t.3 > k)) ((((True /\ (True /\ (True /\ (True /\ True)))) /\ ((True /\ True) /\ ((Plain z5 /\ True) /\ z2)))) /\
  (((((0 + ptN (Row.mk [] true (Ob.cells true)) (5 : Int) (32 : Int) k * 1 <= List.length z5 /\ Plain z1) /\ (True /\ (True /\ (True /\ True)))) /\ ((True /\ True) /\
  ((Plain z3 /\ True) /\ (IsB (Row.mk z1 true (Ob.cells true)) (ptN (Row.mk [] true (Ob.cells true)) (5 : Int) (32 : Int) k) /\ (((0 : Int) <= (32 : Int) /\ (32 : Int) <
  (256 : Int)) /\ ptN (Row.mk [] true (Ob.cells true)) (5 : Int) (32 : Int) k <= 16776000)))))) /\ (∃ g : GBk, ((Ok (GBk.t g) /\ wSum g.1 <= 1000000 /\ List.length g.4 <=
  100) /\ ((0 = 0) /\ ((0 = 0) /\ ((List.length g.4 = ptN (Row.mk z1 true (Ob.cells true)) (5 : Int) (32 : Int) t.3) /\ ((0 = 0) /\ ((List.length g.1 = List.length l) /\
  (((↑(List.length g.1) : Int) = Int.ofNat (List.length l)) /\ (((↑0 : Int) = (0 : Int)) /\ ((0 = 0) /\ ((false = false) /\ ((g.3 = k) /\ ((Eq (α := List Value) (gC enW g.1)
  (gC enW l)) /\ ((Plain (gC enW g.1)) /\ ((0 = 0) /\ ((List.length g.2.1 = List.length t.1) /\ (((↑(smZ g.2.1 (List.length g.2.1)) : Int) = s0) /\ ((g.2.3 = t.3) /\ ((Eq (α
  := List Value) (gC enF (g.2.1 ++ g.2.2)) (gC enF (t.1 ++ t.2))) /\ ((Plain (gC enF (g.2.1 ++ g.2.2))) /\ ((Eq (α := List Value) (bCells g.4) z3) /\ ((Plain (bCells g.4))
  /\ (∀ (y : SBk), ((SBk.t y = Prod.snd (blk (GBk.l g) (GBk.t g)) /\ y.3 = g.4 ++ (blk g.1 (GBk.t g)).1) → ((0 = 0) /\ ((List.length o = List.length y.3) /\ ((0 = 0) /\
  ((false = false) /\ ((k = g.3) /\ ((Eq (α := List Value) (gC enW l) (gC enW g.1)) /\ ((Plain (gC enW l)) /\ ((0 = 0) /\ ((List.length u.1 = List.length y.2.1) /\ ((s =
  (↑(smZ y.2.1 (List.length y.2.1)) : Int)) /\ ((u.3 = y.2.3) /\ ((Eq (α := List Value) (gC enF (u.1 ++ u.2)) (gC enF (y.2.1 ++ y.2.2))) /\ ((Plain (gC enF (u.1 ++ u.2))) /\
  ((Eq (α := List Value) (bCells o) (bCells y.3)) /\ ((Plain (bCells o)) /\ True))))))))))))))))))))))))))))))))))))))))) ((((True /\ (True /\ (True /\ (True /\ True)))) /\
  ((True /\ True) /\ ((Plain z4 /\ True) /\ z2)))) /\ (∃ g : GBk, ((Ok (GBk.t g) /\ wSum g.1 <= 1000000 /\ List.length g.4 <= 100) /\ ((0 = 0) /\ ((0 = 0) /\ ((List.length
  g.4 = ptN (Row.mk [] true (Ob.cells true)) (5 : Int) (32 : Int) t.3) /\ ((0 = 0) /\ ((List.length g.1 = List.length l) /\ (((↑(List.length g.1) : Int) = Int.ofNat
  (List.length l)) /\ (((↑0 : Int) = (0 : Int)) /\ ((0 = 0) /\ ((false = false) /\ ((g.3 = k) /\ ((Eq (α := List Value) (gC enW g.1) (gC enW l)) /\ ((Plain (gC enW g.1)) /\
  ((0 = 0) /\ ((List.length g.2.1 = List.length t.1) /\ (((↑(smZ g.2.1 (List.length g.2.1)) : Int) = s0) /\ ((g.2.3 = t.3) /\ ((Eq (α := List Value) (gC enF (g.2.1 ++
  g.2.2)) (gC enF (t.1 ++ t.2))) /\ ((Plain (gC enF (g.2.1 ++ g.2.2))) /\ ((Eq (α := List Value) (bCells g.4) z4) /\ ((Plain (bCells g.4)) /\ (∀ (y : SBk), ((SBk.t y =
  Prod.snd (blk (GBk.l g) (GBk.t g)) /\ y.3 = g.4 ++ (blk g.1 (GBk.t g)).1) → ((0 = 0) /\ ((List.length o = List.length y.3) /\ ((0 = 0) /\ ((false = false) /\ ((k = g.3) /\
  ((Eq (α := List Value) (gC enW l) (gC enW g.1)) /\ ((Plain (gC enW l)) /\ ((0 = 0) /\ ((List.length u.1 = List.length y.2.1) /\ ((s = (↑(smZ y.2.1 (List.length y.2.1)) :
  Int)) /\ ((u.3 = y.2.3) /\ ((Eq (α := List Value) (gC enF (u.1 ++ u.2)) (gC enF (y.2.1 ++ y.2.2))) /\ ((Plain (gC enF (u.1 ++ u.2))) /\ ((Eq (α := List Value) (bCells o)
  (bCells y.3)) /\ ((Plain (bCells o)) /\ True)))))))))))))))))))))))))))))))))))))))))) := by kernel_rfl
theorem z_rwN : rwN = fun r n m a b h => (rowL (rowT r n m) ⟨L a, L b⟩ h).length := Classical.choose_spec (wn_ex _)
theorem z_rwC : rwC = fun r n m a b h => bCells (rowL (rowT r n m) ⟨L a, L b⟩ h) := Classical.choose_spec (wc_ex _)
theorem z_ruN : ruN = fun r n m a b h => (rowU (rowT r n m) ⟨L a, L b⟩ h).l.length := Classical.choose_spec (wn_ex _)
theorem z_ruS : ruS = fun r n m a b h => ((smN (rowU (rowT r n m) ⟨L a, L b⟩ h).l : Nat) : Int) := Classical.choose_spec (wi_ex _)
theorem z_ruC : ruC = fun r n m a b h => gC enF ((rowU (rowT r n m) ⟨L a, L b⟩ h).l ++ (rowU (rowT r n m) ⟨L a, L b⟩ h).j) := Classical.choose_spec (wc_ex _)
theorem row_T2 (l j : List Fl) (m : Int) : rowT ⟨gC enF (l ++ j), false, .cells true⟩ l.length m = ⟨l, j, m⟩ := row_T l j m
theorem rowU_m (t : Tb) (f : Fl) (h : Int) : (rowU t f h).most = t.most := by
  unfold rowU; split
  · rfl
  · split
    · exact addT_m _ _
    · rfl
theorem ok_row (t : Tb) (f : Fl) (h : Int) (ok : Ok t) : Ok (rowU t f h) := by
  unfold rowU; split
  · exact ok
  · split
    · exact ok_ad _ _ ok
    · exact ok
theorem eRow_ok : EntOk Try.prog eRow := by
  intro a rows p v n' rl he hp
  simp only [eRow] at he
  split at he
  · simp only [Option.some.injEq, Prod.mk.injEq] at he
    obtain ⟨rfl, rfl, rfl, rfl⟩ := he
    rename_i x y h b k n s m r2
    obtain ⟨⟨l, j, rfl, rfl, rfl, ok⟩, h1, h2⟩ := hp
    have := Rw_con ⟨l, j, m⟩ ⟨L x, L y⟩ h b k ok h1 h2
    simp only [rowU_m] at this
    unfold gOwn
    rw [z_rwN, z_rwC, z_ruN, z_ruS, z_ruC]
    simp only [row_T2]
    exact this
  · simp at he
theorem tBk_ok : ∀ x ∈ tBk, EntOk Try.prog x := all_cons eRow_ok (all_cons ePt_ok (all_nil))
theorem wK (a : Wr) : (enW a).length = 3 := rfl
theorem wP (a : Wr) : Plain (enW a) := by intro v hv; simp [enW] at hv; rcases hv with rfl | rfl | rfl <;> rfl
theorem wPl (l : List Wr) : Plain (gC enW l) := gC_plain wP l
theorem wLen (l : List Wr) : (gC enW l).length = l.length * 3 := gC_len wK l
theorem cellI_ofW {l : List Value} {i : Nat} {k : IntKind} {n : Int} (h : l[i]? = some (.int k n)) : cellI l i = n := by unfold cellI; rw [h]
theorem wGet (l : List Wr) (i : Nat) (h : i < l.length) : (gC enW l)[i * 3]? = some (.string (bs l[i].f.n)) ∧ (gC enW l)[i * 3 + 1]? = some (.string (bs l[i].f.v)) ∧ (gC enW l)[i * 3 + 1 + 1]? = some (.int .i64 l[i].h) ∧ cellS (gC enW l) (i * 3) = bs l[i].f.n ∧ cellS (gC enW l) (i * 3 + 1) = bs l[i].f.v ∧ cellI (gC enW l) (i * 3 + 1 + 1) = l[i].h := by
  have h0 := gC_get wK l i 0 h (by omega)
  have h1 := gC_get wK l i 1 h (by omega)
  have h2 := gC_get wK l i 2 h (by omega)
  exact ⟨h0, h1, h2, cellS_of h0, cellS_of h1, cellI_ofW h2⟩
theorem wSum_drop (l : List Wr) (i : Nat) (h : i < l.length) : wSum (l.drop i) = fbN l[i].f + wSum (l.drop (i + 1)) := by
  unfold wSum; rw [List.drop_eq_getElem_cons h, List.map_cons, List.sum_cons]
theorem wSum_le (l : List Wr) : ∀ i, wSum (l.drop i) ≤ wSum l := by
  intro i
  have : wSum l = wSum (l.take i) + wSum (l.drop i) := by
    unfold wSum
    rw [← List.sum_append, ← List.map_append, List.take_append_drop]
  omega
theorem ok_wlen (l : List Wr) : l.length * 32 ≤ wSum l := by
  induction l with
  | nil => exact Nat.le_refl _
  | cons w l ih =>
    have e : wSum (w :: l) = fbN w.f + wSum l := by unfold wSum; rw [List.map_cons, List.sum_cons]
    have : 32 ≤ fbN w.f := by unfold fbN; omega
    rw [e, List.length_cons]; omega
theorem hdL_pos (h : Int) (q : Nat) : 1 ≤ (hdL h q).length := by
  have b2 := putB_pos 64 6 q
  have b3 := putB_pos 16 4 q
  have b4 := putB_pos 0 4 q
  unfold hdL; split <;> (try split) <;> omega
theorem rowL_pos (t : Tb) (f : Fl) (h : Int) : 1 ≤ (rowL t f h).length := by
  unfold rowL; split
  · exact putB_pos _ _ _
  · have := hdL_pos h (fndF t.l f).1.toNat
    rw [List.length_append, List.length_append]; omega
theorem rowL_len (t : Tb) (f : Fl) (h : Int) (ok : Ok t) (hn : f.n.length ≤ 1048576) (hv : f.v.length ≤ 1048576) : (rowL t f h).length ≤ fbN f := by
  obtain ⟨q, hq, hq2⟩ := fnd_rng t.l f
  obtain ⟨o1, o2, o3⟩ := ok
  have hl := ok_len t.l
  have b1 := putB_le 128 7 q (by omega)
  have b2 := putB_le 64 6 q (by omega)
  have b3 := putB_le 16 4 q (by omega)
  have b4 := putB_le 0 4 q (by omega)
  have tn := txL_le f.n hn
  have tv := txL_le f.v hv
  have hd : (hdL h q).length ≤ 6 := by unfold hdL; split <;> (try split) <;> omega
  unfold rowL fbN
  rw [hq, Int.toNat_natCast]
  split
  · omega
  · rw [List.length_append, List.length_append]
    split
    · omega
    · simp only [List.length_nil]; omega
theorem Bk_piece : PieceOk EtBk 4 (10, pBk, specBk) := by
  refine piece_loop tk.mixed (calls_envT tBk_ok) (lok_envT _ _) lm_none (n := 60) (by kernel_rfl) (fun g : GBk => (⟨0, g.t, g.o⟩ : SBk)) (fun g s => s.i ≤ g.l.length ∧ Ok s.t ∧ s.o.length + wSum (g.l.drop s.i) ≤ g.o.length + wSum g.l ∧ (blk (g.l.drop s.i) s.t).2 = (blk g.l g.t).2 ∧ s.o ++ (blk (g.l.drop s.i) s.t).1 = g.o ++ (blk g.l g.t).1) (fun g s => g.l.length - s.i) (sl := slBk) (rl := rlBk) (fun g hg => ⟨Nat.zero_le _, hg.1, by simp, by simp, by simp⟩) (fun g s hg hi => ?_)
  refine (Bk_round g s _ _).mpr ?_
  obtain ⟨i, ⟨tl, tj, tm⟩, o⟩ := s
  obtain ⟨h1, h2, h3, h4, h5⟩ := hi
  obtain ⟨g1, g2, g3⟩ := hg
  simp only at h1 h2 h3 h4 h5
  have one : ∀ l : List Fl, smN (l.take l.length) = smN l := fun l => by rw [List.take_length]
  simp only [ofNat_eq, toNat_cast, Nat.zero_add, Nat.add_zero, Nat.mul_one, List.drop_zero, bCells_len, bCells_drop, bCells_take, bCells_app, bCells_one, bCells_plain, List.length_replicate, List.length_append, List.length_take, List.length_drop, List.take_length, and_true, true_and, and_self, decide_true, List.length_nil, List.length_cons, Nat.sub_zero, dB_mk, dB_ro, List.take_zero, z_smZ, one, wPl, fPl, z_rwN, z_rwC, z_ruN, z_ruS, z_ruC, row_T2]
  refine br_if (fun h => br_dec (by omega) ?_) (fun h => ?_)
  · have hi : i < g.l.length := by omega
    obtain ⟨c0, c1, c2, d0, d1, d2⟩ := wGet g.l i hi
    have w1 : IntKind.i64.wrap ((i : Int) + 1) = ((i + 1 : Nat) : Int) := by
      have := ok_wlen g.l
      rw [wr64_id (by unfold I64; omega)]; omega
    have hs := wSum_drop g.l i hi
    have hle := wSum_le g.l i
    have fb : fbN g.l[i].f = g.l[i].f.n.length + g.l[i].f.v.length + 32 := rfl
    have eL : ∀ l : List UInt8, L (bs l) = l := L_bs
    have hr := rowL_len ⟨tl, tj, tm⟩ g.l[i].f g.l[i].h h2 (by omega) (by omega)
    have eta : (⟨g.l[i].f.n, g.l[i].f.v⟩ : Fl) = g.l[i].f := rfl
    rw [List.drop_eq_getElem_cons hi] at h4 h5
    simp only [blk] at h4 h5
    have hU := ok_row ⟨tl, tj, tm⟩ g.l[i].f g.l[i].h h2
    have hm := rowU_m ⟨tl, tj, tm⟩ g.l[i].f g.l[i].h
    simp only [d0, d1, d2, eL, eta]
    have hp := rowL_pos ⟨tl, tj, tm⟩ g.l[i].f g.l[i].h
    generalize rowU ⟨tl, tj, tm⟩ g.l[i].f g.l[i].h = u at h4 h5 hU hm ⊢
    generalize rowL ⟨tl, tj, tm⟩ g.l[i].f g.l[i].h = r at h4 h5 hr hp ⊢
    refine ⟨c0, c1, c2, ⟨⟨tl, tj, rfl, rfl, rfl, h2⟩, by omega, by omega⟩, br_dec (by omega) (br_b rfl (br_dec (by omega) (br_dec (by omega) (br_dec (by omega) ?_))))⟩
    exact ⟨⟨i + 1, u, o ++ r⟩, ⟨by simp only; omega, hU, by simp only [List.length_append]; omega, h4, by simp only [List.append_assoc]; exact h5⟩, by simp only; omega, by simp, w1.symm, rfl, rfl, hm, rfl, rfl⟩
  · have : i = g.l.length := by omega
    subst this
    rw [List.drop_length] at h4 h5
    simp only [blk, List.append_nil] at h4 h5
    exact ⟨⟨g.l.length, ⟨tl, tj, tm⟩, o⟩, ⟨h4, h5⟩, rfl, rfl, rfl, rfl, rfl, rfl, rfl⟩
theorem Bk_con (t : Tb) (l : List Wr) (b : Bool) (k : Int) (ok : Ok t) (hl : wSum l ≤ 1000000) (hk : 0 ≤ k) (hk2 : k ≤ 65536) : ConM Try.prog 10 [.pointer (some ⟨0, 0, none⟩), .slice (some ⟨1, 0, none⟩) l.length 3] [⟨[.pointer (some ⟨2, 0, none⟩), .bool b, .int .i64 k], false, .cells false⟩, gRo enW l, tcR t.l.length (smN t.l : Nat) t.most 3, gOwn enF (t.l ++ t.j)] (slc 5 (szs t.most b k ++ (blk l t).1).length) 6 [(0, ⟨[.pointer (some ⟨2, 0, none⟩), .bool false, .int .i64 k], false, .cells false⟩), (1, gRo enW l), (2, tcR (blk l t).2.l.length (smN (blk l t).2.l : Nat) (blk l t).2.most 4), (4, gOwn enF ((blk l t).2.l ++ (blk l t).2.j)), (5, bOwn (szs t.most b k ++ (blk l t).1))] := by
  refine conM_vc (E := EtBk) tk.mixed (calls_envT tBk_ok) (lok_envT _ _) (M := mBk) (lm_one Bk_piece) (Bk_vc t _ l b k _ _ _) ?_
  obtain ⟨o1, o2, o3⟩ := ok
  have p1 : putOut [] 5 32 k = putB 32 5 k.toNat := by have := put_nil 32 5 k.toNat (by omega) (by omega) (by omega); rw [show ((k.toNat : Nat) : Int) = k by omega] at this; exact this
  have q1 : putOut [] 5 32 t.most = putB 32 5 t.most.toNat := by have := put_nil 32 5 t.most.toNat (by omega) (by omega) (by omega); rw [show ((t.most.toNat : Nat) : Int) = t.most by omega] at this; exact this
  have q2 : ∀ b : List UInt8, putOut b 5 32 t.most = b ++ putB 32 5 t.most.toNat := fun b => by
    unfold putOut; rw [if_pos (by omega)]; rfl
  have g1 := putB_le 32 5 k.toNat (by omega)
  have g2 := putB_le 32 5 t.most.toNat (by omega)
  have u1 : u8i 32 = 32 := by decide
  have e4 : dB ⟨[], true, .cells true⟩ = [] := rfl
  have ib : IsB ⟨[], true, .cells true⟩ 0 := ⟨[], rfl, rfl⟩
  simp only [ofNat_eq, toNat_cast, Nat.zero_add, Nat.add_zero, Nat.mul_one, List.drop_zero, bCells_len, bCells_drop, bCells_take, bCells_app, bCells_one, bCells_plain, List.length_replicate, List.length_append, List.length_take, List.length_drop, List.take_length, and_true, true_and, and_self, decide_true, List.length_nil, List.length_cons, Nat.sub_zero, dB_mk, dB_ro, List.take_zero, z_smZ, wPl, fPl, z_ptN, z_ptC, e4, u1, p1, q1, q2, ib]
  have s0 : b = false → szs t.most b k = [] := fun h => by rw [h]; rfl
  have s1 : b = true → szs t.most b k = (if t.most > k then putB 32 5 k.toNat else []) ++ putB 32 5 t.most.toNat := fun h => by rw [h]; rfl
  refine br_intro (fun h => ?_) (fun h => ?_)
  · have h : b = false := by simpa using h
    rw [s0 h]
    exact ⟨⟨l, t, k, []⟩, ⟨⟨o1, o2, o3⟩, hl, by simp⟩, rfl, rfl, rfl, h.symm, rfl, rfl, rfl, rfl, rfl, rfl, rfl, fun y hy => ⟨by rw [hy.2]; simp, rfl, rfl, by rw [hy.1], by rw [hy.1], by rw [hy.1], by rw [hy.1], by rw [hy.2]⟩⟩
  · have h : b = true := by simpa using h
    rw [s1 h]
    have i2 : IsB ⟨bCells (putB 32 5 k.toNat), true, .cells true⟩ (putB 32 5 k.toNat).length := isB_mk _ _ rfl
    refine br_if (fun h => ⟨⟨by omega, by omega⟩, ⟨Nat.le_refl _, i2, by omega, by omega⟩, ?_⟩) (fun h => ⟨⟨by omega, by omega⟩, ?_⟩)
    · rw [if_pos h]
      exact ⟨⟨l, t, k, putB 32 5 k.toNat ++ putB 32 5 t.most.toNat⟩, ⟨⟨o1, o2, o3⟩, hl, by simp only [List.length_append]; omega⟩, by simp, rfl, rfl, rfl, rfl, rfl, rfl, rfl, rfl, rfl, fun y hy => ⟨by rw [hy.2]; simp [Nat.add_assoc], rfl, rfl, by rw [hy.1], by rw [hy.1], by rw [hy.1], by rw [hy.1], by rw [hy.2]⟩⟩
    · rw [if_neg h]
      exact ⟨⟨l, t, k, putB 32 5 t.most.toNat⟩, ⟨⟨o1, o2, o3⟩, hl, by simp only; omega⟩, rfl, rfl, rfl, rfl, rfl, rfl, rfl, rfl, rfl, rfl, fun y hy => ⟨by rw [hy.2]; simp, rfl, rfl, by rw [hy.1], by rw [hy.1], by rw [hy.1], by rw [hy.1], by rw [hy.2]; rfl⟩⟩
end Go.Proofs.Ytlkinjlbaeigdaa.pk
