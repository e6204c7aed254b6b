/- How a row is written. -/
import Derived.Test.YtlkinjlbaeigdaaSz9
import Derived.Test.YtlkinjlbaeigdaaRows
import Derived.Test.YtlkinjlbaeigdaaLpkA
import Derived.Test.YtlkinjlbaeigdaaLtbI
import Derived.Test.YtlkinjlbaeigdaaLbrt0
set_option maxRecDepth 20000
set_option linter.unusedSimpArgs false
set_option linter.unusedVariables false
namespace Go.Proofs.Ytlkinjlbaeigdaa.pk
open Go Go.Ev Go.Sy Go.RowKit Go.Proofs.Ytlkinjlbaeigdaa.gl Go.Proofs.Ytlkinjlbaeigdaa.tk Go.Proofs.Ytlkinjlbaeigdaa.hf Go.Proofs.Ytlkinjlbaeigdaa.s3 Go.Proofs.Ytlkinjlbaeigdaa.tb Go.Proofs.Ytlkinjlbaeigdaa.sh
noncomputable def txN : ByteArray → Nat := Classical.choose (bn_ex fun s => (txL (L s)).length)
noncomputable def txC : ByteArray → List Value := Classical.choose (bc_ex fun s => bCells (txL (L s)))
noncomputable def eTx : EntM := entC 45 fun a r => match a, r with
  | [.string s], [] => some ((L s).length ≤ 1048576, .slice (some ⟨0, 0, none⟩) (txN s) 1, [⟨txC s, false, .cells true⟩])
  | _, _ => none
noncomputable def tPr : List EntM := [eTx, ePt, eFndT, eAddT]
noncomputable abbrev EtPr : Env := envT Try.prog tPr
def hdL (how : Int) (i : Nat) : List UInt8 := if how = 1 then putB 64 6 i else if how = 3 then putB 16 4 i else putB 0 4 i
noncomputable def rowL (t : Tb) (f : Fl) (how : Int) : List UInt8 :=
  if (fndF t.l f).2 = true ∧ how ≠ 3 then putB 128 7 (fndF t.l f).1.toNat
  else hdL how (fndF t.l f).1.toNat ++ (if (fndF t.l f).1 = 0 then txL f.n else []) ++ txL f.v
noncomputable def rowU (t : Tb) (f : Fl) (how : Int) : Tb := if (fndF t.l f).2 = true ∧ how ≠ 3 then t else if how = 1 then addT t f else t
def tcR (n : Nat) (s m : Int) (r : Nat) : Row := ⟨[.slice (some ⟨r, 0, none⟩) n 2, .int .i64 s, .int .i64 m], false, .cells false⟩
def pkC (b : Bool) (k : Int) : Row := ⟨[.pointer (some ⟨1, 0, none⟩), .bool b, .int .i64 k], false, .cells false⟩
theorem Rw_vc (t u : Tb) (f : Fl) (how s s' : Int) (b : Bool) (k : Int) (o : List UInt8) : mcall EtPr noM 60 29 [.pointer (some ⟨0, 0, none⟩), .agg ⟨[.string (bs f.n), .string (bs f.v), .int .i64 how]⟩] ⟨mkR (nums 0 [pkC b k, tcR t.l.length s t.most 2, gOwn enF (t.l ++ t.j)]), 3⟩ (retIsM 3 (slc 4 o.length) 5 [(0, pkC b k), (1, tcR u.l.length s' u.most 3), (3, gOwn enF (u.l ++ u.j)), (4, bOwn o)]) =
  let z2 := (Row.mk (gC enF (t.1 ++ t.2)) false (Ob.cells true)); let z4 := (Array.mk [Value.string (bs f.1), Value.string (bs f.2)]); let z1 := (br (how == (1 : Int))
  ((((True /\ (True /\ (True /\ (True /\ True)))) /\ ((True /\ True) /\ ((Plain (ptC (Row.mk [] true (Ob.cells true)) (6 : Int) (64 : Int) (fdI z2 (List.length t.1) (bs f.1)
  (bs f.2))) /\ True) /\ (IsB (Row.mk [] true (Ob.cells true)) 0 /\ (((0 : Int) <= (64 : Int) /\ (64 : Int) < (256 : Int)) /\ 0 <= 16776000)))))) /\ ((((True /\ ((True /\
  (True /\ True)) /\ True)) /\ (((True /\ (True /\ (True /\ True))) /\ (Plain (gC enF (t.1 ++ t.2)) /\ True)) /\ ((Plain (adC z2 (List.length t.1) t.3 (bs f.1) (bs f.2)) /\
  True) /\ (IsTb z2 (List.length t.1) s /\ (fbZ (bs f.1) (bs f.2) <= 100000000 /\ ((0 : Int) <= t.3 /\ t.3 <= (100000000 : Int)))))))) /\ ((Value.pointer (some (Addr.mk 1 0
  none)) = Value.pointer (some (Addr.mk 1 0 none))) /\ ((Value.agg z4 = Value.agg z4) /\ (br (fdI z2 (List.length t.1) (bs f.1) (bs f.2) == (0 : Int)) ((((True /\ True) /\
  (True /\ ((Plain (txC (bs f.1)) /\ True) /\ List.length (L (bs f.1)) <= 1048576)))) /\ (br (decide (0 + txN (bs f.1) * 1 <= List.length (txC (bs f.1)))) (br (allOne
  (List.take (txN (bs f.1) * 1) (List.drop 0 (txC (bs f.1))))) (br (decide (ptN (Row.mk [] true (Ob.cells true)) (6 : Int) (64 : Int) (fdI z2 (List.length t.1) (bs f.1) (bs
  f.2)) + txN (bs f.1) <= 16777216)) (br (decide (0 < ptN (Row.mk [] true (Ob.cells true)) (6 : Int) (64 : Int) (fdI z2 (List.length t.1) (bs f.1) (bs f.2)) + txN (bs f.1) ∨
  List.length (ptC (Row.mk [] true (Ob.cells true)) (6 : Int) (64 : Int) (fdI z2 (List.length t.1) (bs f.1) (bs f.2))) = 0)) (br (decide (0 + ptN (Row.mk [] true (Ob.cells
  true)) (6 : Int) (64 : Int) (fdI z2 (List.length t.1) (bs f.1) (bs f.2)) * 1 <= List.length (ptC (Row.mk [] true (Ob.cells true)) (6 : Int) (64 : Int) (fdI z2 (List.length
  t.1) (bs f.1) (bs f.2))))) ((((True /\ True) /\ (True /\ ((Plain (txC (bs f.2)) /\ True) /\ List.length (L (bs f.2)) <= 1048576)))) /\ (br (decide (0 + txN (bs f.2) * 1 <=
  List.length (txC (bs f.2)))) (br (allOne (List.take (txN (bs f.2) * 1) (List.drop 0 (txC (bs f.2))))) (br (decide (ptN (Row.mk [] true (Ob.cells true)) (6 : Int) (64 :
  Int) (fdI z2 (List.length t.1) (bs f.1) (bs f.2)) + txN (bs f.1) + txN (bs f.2) <= 16777216)) (br (decide (0 < ptN (Row.mk [] true (Ob.cells true)) (6 : Int) (64 : Int)
  (fdI z2 (List.length t.1) (bs f.1) (bs f.2)) + txN (bs f.1) + txN (bs f.2) ∨ List.length (List.take (ptN (Row.mk [] true (Ob.cells true)) (6 : Int) (64 : Int) (fdI z2
  (List.length t.1) (bs f.1) (bs f.2)) * 1) (List.drop 0 (ptC (Row.mk [] true (Ob.cells true)) (6 : Int) (64 : Int) (fdI z2 (List.length t.1) (bs f.1) (bs f.2)))) ++
  List.take (txN (bs f.1) * 1) (List.drop 0 (txC (bs f.1)))) = 0)) (br (decide (0 + (ptN (Row.mk [] true (Ob.cells true)) (6 : Int) (64 : Int) (fdI z2 (List.length t.1) (bs
  f.1) (bs f.2)) + txN (bs f.1)) * 1 <= List.length (List.take (ptN (Row.mk [] true (Ob.cells true)) (6 : Int) (64 : Int) (fdI z2 (List.length t.1) (bs f.1) (bs f.2)) * 1)
  (List.drop 0 (ptC (Row.mk [] true (Ob.cells true)) (6 : Int) (64 : Int) (fdI z2 (List.length t.1) (bs f.1) (bs f.2)))) ++ List.take (txN (bs f.1) * 1) (List.drop 0 (txC
  (bs f.1)))))) ((0 = 0) /\ ((List.length o = ptN (Row.mk [] true (Ob.cells true)) (6 : Int) (64 : Int) (fdI z2 (List.length t.1) (bs f.1) (bs f.2)) + txN (bs f.1) + txN (bs
  f.2)) /\ ((0 = 0) /\ ((b = b) /\ ((k = k) /\ ((0 = 0) /\ ((List.length u.1 = adN z2 (List.length t.1) t.3 (bs f.1) (bs f.2)) /\ ((s' = adS z2 (List.length t.1) t.3 (bs
  f.1) (bs f.2)) /\ ((u.3 = t.3) /\ ((Eq (α := List Value) (gC enF (u.1 ++ u.2)) (adC z2 (List.length t.1) t.3 (bs f.1) (bs f.2))) /\ ((Plain (gC enF (u.1 ++ u.2))) /\ ((Eq
  (α := List Value) (bCells o) (List.take ((ptN (Row.mk [] true (Ob.cells true)) (6 : Int) (64 : Int) (fdI z2 (List.length t.1) (bs f.1) (bs f.2)) + txN (bs f.1)) * 1)
  (List.drop 0 (List.take (ptN (Row.mk [] true (Ob.cells true)) (6 : Int) (64 : Int) (fdI z2 (List.length t.1) (bs f.1) (bs f.2)) * 1) (List.drop 0 (ptC (Row.mk [] true
  (Ob.cells true)) (6 : Int) (64 : Int) (fdI z2 (List.length t.1) (bs f.1) (bs f.2)))) ++ List.take (txN (bs f.1) * 1) (List.drop 0 (txC (bs f.1))))) ++ List.take (txN (bs
  f.2) * 1) (List.drop 0 (txC (bs f.2))))) /\ ((Plain (bCells o)) /\ True))))))))))))) False) ((0 = 0) /\ ((List.length o = ptN (Row.mk [] true (Ob.cells true)) (6 : Int)
  (64 : Int) (fdI z2 (List.length t.1) (bs f.1) (bs f.2)) + txN (bs f.1)) /\ ((0 = 0) /\ ((b = b) /\ ((k = k) /\ ((0 = 0) /\ ((List.length u.1 = adN z2 (List.length t.1) t.3
  (bs f.1) (bs f.2)) /\ ((s' = adS z2 (List.length t.1) t.3 (bs f.1) (bs f.2)) /\ ((u.3 = t.3) /\ ((Eq (α := List Value) (gC enF (u.1 ++ u.2)) (adC z2 (List.length t.1) t.3
  (bs f.1) (bs f.2))) /\ ((Plain (gC enF (u.1 ++ u.2))) /\ ((Eq (α := List Value) (bCells o) (List.take (ptN (Row.mk [] true (Ob.cells true)) (6 : Int) (64 : Int) (fdI z2
  (List.length t.1) (bs f.1) (bs f.2)) * 1) (List.drop 0 (ptC (Row.mk [] true (Ob.cells true)) (6 : Int) (64 : Int) (fdI z2 (List.length t.1) (bs f.1) (bs f.2)))) ++
  List.take (txN (bs f.1) * 1) (List.drop 0 (txC (bs f.1))))) /\ ((Plain (bCells o)) /\ True)))))))))))))) False) False) False)) False) ((((True /\ True) /\ (True /\ ((Plain
  (txC (bs f.2)) /\ True) /\ List.length (L (bs f.2)) <= 1048576)))) /\ (br (decide (0 + txN (bs f.2) * 1 <= List.length (txC (bs f.2)))) (br (allOne (List.take (txN (bs
  f.2) * 1) (List.drop 0 (txC (bs f.2))))) (br (decide (ptN (Row.mk [] true (Ob.cells true)) (6 : Int) (64 : Int) (fdI z2 (List.length t.1) (bs f.1) (bs f.2)) + txN (bs f.2)
  <= 16777216)) (br (decide (0 < ptN (Row.mk [] true (Ob.cells true)) (6 : Int) (64 : Int) (fdI z2 (List.length t.1) (bs f.1) (bs f.2)) + txN (bs f.2) ∨ List.length (ptC
  (Row.mk [] true (Ob.cells true)) (6 : Int) (64 : Int) (fdI z2 (List.length t.1) (bs f.1) (bs f.2))) = 0)) (br (decide (0 + ptN (Row.mk [] true (Ob.cells true)) (6 : Int)
  (64 : Int) (fdI z2 (List.length t.1) (bs f.1) (bs f.2)) * 1 <= List.length (ptC (Row.mk [] true (Ob.cells true)) (6 : Int) (64 : Int) (fdI z2 (List.length t.1) (bs f.1)
  (bs f.2))))) ((0 = 0) /\ ((List.length o = ptN (Row.mk [] true (Ob.cells true)) (6 : Int) (64 : Int) (fdI z2 (List.length t.1) (bs f.1) (bs f.2)) + txN (bs f.2)) /\ ((0 =
  0) /\ ((b = b) /\ ((k = k) /\ ((0 = 0) /\ ((List.length u.1 = adN z2 (List.length t.1) t.3 (bs f.1) (bs f.2)) /\ ((s' = adS z2 (List.length t.1) t.3 (bs f.1) (bs f.2)) /\
  ((u.3 = t.3) /\ ((Eq (α := List Value) (gC enF (u.1 ++ u.2)) (adC z2 (List.length t.1) t.3 (bs f.1) (bs f.2))) /\ ((Plain (gC enF (u.1 ++ u.2))) /\ ((Eq (α := List Value)
  (bCells o) (List.take (ptN (Row.mk [] true (Ob.cells true)) (6 : Int) (64 : Int) (fdI z2 (List.length t.1) (bs f.1) (bs f.2)) * 1) (List.drop 0 (ptC (Row.mk [] true
  (Ob.cells true)) (6 : Int) (64 : Int) (fdI z2 (List.length t.1) (bs f.1) (bs f.2)))) ++ List.take (txN (bs f.2) * 1) (List.drop 0 (txC (bs f.2))))) /\ ((Plain (bCells o))
  /\ True))))))))))))) False) ((0 = 0) /\ ((List.length o = ptN (Row.mk [] true (Ob.cells true)) (6 : Int) (64 : Int) (fdI z2 (List.length t.1) (bs f.1) (bs f.2))) /\ ((0 =
  0) /\ ((b = b) /\ ((k = k) /\ ((0 = 0) /\ ((List.length u.1 = adN z2 (List.length t.1) t.3 (bs f.1) (bs f.2)) /\ ((s' = adS z2 (List.length t.1) t.3 (bs f.1) (bs f.2)) /\
  ((u.3 = t.3) /\ ((Eq (α := List Value) (gC enF (u.1 ++ u.2)) (adC z2 (List.length t.1) t.3 (bs f.1) (bs f.2))) /\ ((Plain (gC enF (u.1 ++ u.2))) /\ ((Eq (α := List Value)
  (bCells o) (ptC (Row.mk [] true (Ob.cells true)) (6 : Int) (64 : Int) (fdI z2 (List.length t.1) (bs f.1) (bs f.2)))) /\ ((Plain (bCells o)) /\ True)))))))))))))) False)
  False) False))) False) False) False)) ((((True /\ True) /\ (True /\ ((Plain (txC (bs f.2)) /\ True) /\ List.length (L (bs f.2)) <= 1048576)))) /\ (br (decide (0 + txN (bs
  f.2) * 1 <= List.length (txC (bs f.2)))) (br (allOne (List.take (txN (bs f.2) * 1) (List.drop 0 (txC (bs f.2))))) (br (decide (ptN (Row.mk [] true (Ob.cells true)) (6 :
  Int) (64 : Int) (fdI z2 (List.length t.1) (bs f.1) (bs f.2)) + txN (bs f.2) <= 16777216)) (br (decide (0 < ptN (Row.mk [] true (Ob.cells true)) (6 : Int) (64 : Int) (fdI
  z2 (List.length t.1) (bs f.1) (bs f.2)) + txN (bs f.2) ∨ List.length (ptC (Row.mk [] true (Ob.cells true)) (6 : Int) (64 : Int) (fdI z2 (List.length t.1) (bs f.1) (bs
  f.2))) = 0)) (br (decide (0 + ptN (Row.mk [] true (Ob.cells true)) (6 : Int) (64 : Int) (fdI z2 (List.length t.1) (bs f.1) (bs f.2)) * 1 <= List.length (ptC (Row.mk []
  true (Ob.cells true)) (6 : Int) (64 : Int) (fdI z2 (List.length t.1) (bs f.1) (bs f.2))))) ((0 = 0) /\ ((List.length o = ptN (Row.mk [] true (Ob.cells true)) (6 : Int) (64
  : Int) (fdI z2 (List.length t.1) (bs f.1) (bs f.2)) + txN (bs f.2)) /\ ((0 = 0) /\ ((b = b) /\ ((k = k) /\ ((0 = 0) /\ ((List.length u.1 = adN z2 (List.length t.1) t.3 (bs
  f.1) (bs f.2)) /\ ((s' = adS z2 (List.length t.1) t.3 (bs f.1) (bs f.2)) /\ ((u.3 = t.3) /\ ((Eq (α := List Value) (gC enF (u.1 ++ u.2)) (adC z2 (List.length t.1) t.3 (bs
  f.1) (bs f.2))) /\ ((Plain (gC enF (u.1 ++ u.2))) /\ ((Eq (α := List Value) (bCells o) (List.take (ptN (Row.mk [] true (Ob.cells true)) (6 : Int) (64 : Int) (fdI z2
  (List.length t.1) (bs f.1) (bs f.2)) * 1) (List.drop 0 (ptC (Row.mk [] true (Ob.cells true)) (6 : Int) (64 : Int) (fdI z2 (List.length t.1) (bs f.1) (bs f.2)))) ++
  List.take (txN (bs f.2) * 1) (List.drop 0 (txC (bs f.2))))) /\ ((Plain (bCells o)) /\ True))))))))))))) False) ((0 = 0) /\ ((List.length o = ptN (Row.mk [] true (Ob.cells
  true)) (6 : Int) (64 : Int) (fdI z2 (List.length t.1) (bs f.1) (bs f.2))) /\ ((0 = 0) /\ ((b = b) /\ ((k = k) /\ ((0 = 0) /\ ((List.length u.1 = adN z2 (List.length t.1)
  t.3 (bs f.1) (bs f.2)) /\ ((s' = adS z2 (List.length t.1) t.3 (bs f.1) (bs f.2)) /\ ((u.3 = t.3) /\ ((Eq (α := List Value) (gC enF (u.1 ++ u.2)) (adC z2 (List.length t.1)
  t.3 (bs f.1) (bs f.2))) /\ ((Plain (gC enF (u.1 ++ u.2))) /\ ((Eq (α := List Value) (bCells o) (ptC (Row.mk [] true (Ob.cells true)) (6 : Int) (64 : Int) (fdI z2
  (List.length t.1) (bs f.1) (bs f.2)))) /\ ((Plain (bCells o)) /\ True)))))))))))))) False) False) False))))))) (br (how == (3 : Int)) ((((True /\ (True /\ (True /\ (True
  /\ True)))) /\ ((True /\ True) /\ ((Plain (ptC (Row.mk [] true (Ob.cells true)) (4 : Int) (16 : Int) (fdI z2 (List.length t.1) (bs f.1) (bs f.2))) /\ True) /\ (IsB (Row.mk
  [] true (Ob.cells true)) 0 /\ (((0 : Int) <= (16 : Int) /\ (16 : Int) < (256 : Int)) /\ 0 <= 16776000)))))) /\ (br (fdI z2 (List.length t.1) (bs f.1) (bs f.2) == (0 :
  Int)) ((((True /\ True) /\ (True /\ ((Plain (txC (bs f.1)) /\ True) /\ List.length (L (bs f.1)) <= 1048576)))) /\ (br (decide (0 + txN (bs f.1) * 1 <= List.length (txC (bs
  f.1)))) (br (allOne (List.take (txN (bs f.1) * 1) (List.drop 0 (txC (bs f.1))))) (br (decide (ptN (Row.mk [] true (Ob.cells true)) (4 : Int) (16 : Int) (fdI z2
  (List.length t.1) (bs f.1) (bs f.2)) + txN (bs f.1) <= 16777216)) (br (decide (0 < ptN (Row.mk [] true (Ob.cells true)) (4 : Int) (16 : Int) (fdI z2 (List.length t.1) (bs
  f.1) (bs f.2)) + txN (bs f.1) ∨ List.length (ptC (Row.mk [] true (Ob.cells true)) (4 : Int) (16 : Int) (fdI z2 (List.length t.1) (bs f.1) (bs f.2))) = 0)) (br (decide (0 +
  ptN (Row.mk [] true (Ob.cells true)) (4 : Int) (16 : Int) (fdI z2 (List.length t.1) (bs f.1) (bs f.2)) * 1 <= List.length (ptC (Row.mk [] true (Ob.cells true)) (4 : Int)
  (16 : Int) (fdI z2 (List.length t.1) (bs f.1) (bs f.2))))) ((((True /\ True) /\ (True /\ ((Plain (txC (bs f.2)) /\ True) /\ List.length (L (bs f.2)) <= 1048576)))) /\ (br
  (decide (0 + txN (bs f.2) * 1 <= List.length (txC (bs f.2)))) (br (allOne (List.take (txN (bs f.2) * 1) (List.drop 0 (txC (bs f.2))))) (br (decide (ptN (Row.mk [] true
  (Ob.cells true)) (4 : Int) (16 : Int) (fdI z2 (List.length t.1) (bs f.1) (bs f.2)) + txN (bs f.1) + txN (bs f.2) <= 16777216)) (br (decide (0 < ptN (Row.mk [] true
  (Ob.cells true)) (4 : Int) (16 : Int) (fdI z2 (List.length t.1) (bs f.1) (bs f.2)) + txN (bs f.1) + txN (bs f.2) ∨ List.length (List.take (ptN (Row.mk [] true (Ob.cells
  true)) (4 : Int) (16 : Int) (fdI z2 (List.length t.1) (bs f.1) (bs f.2)) * 1) (List.drop 0 (ptC (Row.mk [] true (Ob.cells true)) (4 : Int) (16 : Int) (fdI z2 (List.length
  t.1) (bs f.1) (bs f.2)))) ++ List.take (txN (bs f.1) * 1) (List.drop 0 (txC (bs f.1)))) = 0)) (br (decide (0 + (ptN (Row.mk [] true (Ob.cells true)) (4 : Int) (16 : Int)
  (fdI z2 (List.length t.1) (bs f.1) (bs f.2)) + txN (bs f.1)) * 1 <= List.length (List.take (ptN (Row.mk [] true (Ob.cells true)) (4 : Int) (16 : Int) (fdI z2 (List.length
  t.1) (bs f.1) (bs f.2)) * 1) (List.drop 0 (ptC (Row.mk [] true (Ob.cells true)) (4 : Int) (16 : Int) (fdI z2 (List.length t.1) (bs f.1) (bs f.2)))) ++ List.take (txN (bs
  f.1) * 1) (List.drop 0 (txC (bs f.1)))))) ((0 = 0) /\ ((List.length o = ptN (Row.mk [] true (Ob.cells true)) (4 : Int) (16 : Int) (fdI z2 (List.length t.1) (bs f.1) (bs
  f.2)) + txN (bs f.1) + txN (bs f.2)) /\ ((0 = 0) /\ ((b = b) /\ ((k = k) /\ ((0 = 0) /\ ((List.length u.1 = List.length t.1) /\ ((s' = s) /\ ((u.3 = t.3) /\ ((Eq (α :=
  List Value) (gC enF (u.1 ++ u.2)) (gC enF (t.1 ++ t.2))) /\ ((Plain (gC enF (u.1 ++ u.2))) /\ ((Eq (α := List Value) (bCells o) (List.take ((ptN (Row.mk [] true (Ob.cells
  true)) (4 : Int) (16 : Int) (fdI z2 (List.length t.1) (bs f.1) (bs f.2)) + txN (bs f.1)) * 1) (List.drop 0 (List.take (ptN (Row.mk [] true (Ob.cells true)) (4 : Int) (16 :
  Int) (fdI z2 (List.length t.1) (bs f.1) (bs f.2)) * 1) (List.drop 0 (ptC (Row.mk [] true (Ob.cells true)) (4 : Int) (16 : Int) (fdI z2 (List.length t.1) (bs f.1) (bs
  f.2)))) ++ List.take (txN (bs f.1) * 1) (List.drop 0 (txC (bs f.1))))) ++ List.take (txN (bs f.2) * 1) (List.drop 0 (txC (bs f.2))))) /\ ((Plain (bCells o)) /\
  True))))))))))))) False) ((0 = 0) /\ ((List.length o = ptN (Row.mk [] true (Ob.cells true)) (4 : Int) (16 : Int) (fdI z2 (List.length t.1) (bs f.1) (bs f.2)) + txN (bs
  f.1)) /\ ((0 = 0) /\ ((b = b) /\ ((k = k) /\ ((0 = 0) /\ ((List.length u.1 = List.length t.1) /\ ((s' = s) /\ ((u.3 = t.3) /\ ((Eq (α := List Value) (gC enF (u.1 ++ u.2))
  (gC enF (t.1 ++ t.2))) /\ ((Plain (gC enF (u.1 ++ u.2))) /\ ((Eq (α := List Value) (bCells o) (List.take (ptN (Row.mk [] true (Ob.cells true)) (4 : Int) (16 : Int) (fdI z2
  (List.length t.1) (bs f.1) (bs f.2)) * 1) (List.drop 0 (ptC (Row.mk [] true (Ob.cells true)) (4 : Int) (16 : Int) (fdI z2 (List.length t.1) (bs f.1) (bs f.2)))) ++
  List.take (txN (bs f.1) * 1) (List.drop 0 (txC (bs f.1))))) /\ ((Plain (bCells o)) /\ True)))))))))))))) False) False) False)) False) ((((True /\ True) /\ (True /\ ((Plain
  (txC (bs f.2)) /\ True) /\ List.length (L (bs f.2)) <= 1048576)))) /\ (br (decide (0 + txN (bs f.2) * 1 <= List.length (txC (bs f.2)))) (br (allOne (List.take (txN (bs
  f.2) * 1) (List.drop 0 (txC (bs f.2))))) (br (decide (ptN (Row.mk [] true (Ob.cells true)) (4 : Int) (16 : Int) (fdI z2 (List.length t.1) (bs f.1) (bs f.2)) + txN (bs f.2)
  <= 16777216)) (br (decide (0 < ptN (Row.mk [] true (Ob.cells true)) (4 : Int) (16 : Int) (fdI z2 (List.length t.1) (bs f.1) (bs f.2)) + txN (bs f.2) ∨ List.length (ptC
  (Row.mk [] true (Ob.cells true)) (4 : Int) (16 : Int) (fdI z2 (List.length t.1) (bs f.1) (bs f.2))) = 0)) (br (decide (0 + ptN (Row.mk [] true (Ob.cells true)) (4 : Int)
  (16 : Int) (fdI z2 (List.length t.1) (bs f.1) (bs f.2)) * 1 <= List.length (ptC (Row.mk [] true (Ob.cells true)) (4 : Int) (16 : Int) (fdI z2 (List.length t.1) (bs f.1)
  (bs f.2))))) ((0 = 0) /\ ((List.length o = ptN (Row.mk [] true (Ob.cells true)) (4 : Int) (16 : Int) (fdI z2 (List.length t.1) (bs f.1) (bs f.2)) + txN (bs f.2)) /\ ((0 =
  0) /\ ((b = b) /\ ((k = k) /\ ((0 = 0) /\ ((List.length u.1 = List.length t.1) /\ ((s' = s) /\ ((u.3 = t.3) /\ ((Eq (α := List Value) (gC enF (u.1 ++ u.2)) (gC enF (t.1 ++
  t.2))) /\ ((Plain (gC enF (u.1 ++ u.2))) /\ ((Eq (α := List Value) (bCells o) (List.take (ptN (Row.mk [] true (Ob.cells true)) (4 : Int) (16 : Int) (fdI z2 (List.length
  t.1) (bs f.1) (bs f.2)) * 1) (List.drop 0 (ptC (Row.mk [] true (Ob.cells true)) (4 : Int) (16 : Int) (fdI z2 (List.length t.1) (bs f.1) (bs f.2)))) ++ List.take (txN (bs
  f.2) * 1) (List.drop 0 (txC (bs f.2))))) /\ ((Plain (bCells o)) /\ True))))))))))))) False) ((0 = 0) /\ ((List.length o = ptN (Row.mk [] true (Ob.cells true)) (4 : Int)
  (16 : Int) (fdI z2 (List.length t.1) (bs f.1) (bs f.2))) /\ ((0 = 0) /\ ((b = b) /\ ((k = k) /\ ((0 = 0) /\ ((List.length u.1 = List.length t.1) /\ ((s' = s) /\ ((u.3 =
  t.3) /\ ((Eq (α := List Value) (gC enF (u.1 ++ u.2)) (gC enF (t.1 ++ t.2))) /\ ((Plain (gC enF (u.1 ++ u.2))) /\ ((Eq (α := List Value) (bCells o) (ptC (Row.mk [] true
  (Ob.cells true)) (4 : Int) (16 : Int) (fdI z2 (List.length t.1) (bs f.1) (bs f.2)))) /\ ((Plain (bCells o)) /\ True)))))))))))))) False) False) False))) False) False)
  False)) ((((True /\ True) /\ (True /\ ((Plain (txC (bs f.2)) /\ True) /\ List.length (L (bs f.2)) <= 1048576)))) /\ (br (decide (0 + txN (bs f.2) * 1 <= List.length (txC
  (bs f.2)))) (br (allOne (List.take (txN (bs f.2) * 1) (List.drop 0 (txC (bs f.2))))) (br (decide (ptN (Row.mk [] true (Ob.cells true)) (4 : Int) (16 : Int) (fdI z2
  (List.length t.1) (bs f.1) (bs f.2)) + txN (bs f.2) <= 16777216)) (br (decide (0 < ptN (Row.mk [] true (Ob.cells true)) (4 : Int) (16 : Int) (fdI z2 (List.length t.1) (bs
  f.1) (bs f.2)) + txN (bs f.2) ∨ List.length (ptC (Row.mk [] true (Ob.cells true)) (4 : Int) (16 : Int) (fdI z2 (List.length t.1) (bs f.1) (bs f.2))) = 0)) (br (decide (0 +
  ptN (Row.mk [] true (Ob.cells true)) (4 : Int) (16 : Int) (fdI z2 (List.length t.1) (bs f.1) (bs f.2)) * 1 <= List.length (ptC (Row.mk [] true (Ob.cells true)) (4 : Int)
  (16 : Int) (fdI z2 (List.length t.1) (bs f.1) (bs f.2))))) ((0 = 0) /\ ((List.length o = ptN (Row.mk [] true (Ob.cells true)) (4 : Int) (16 : Int) (fdI z2 (List.length
  t.1) (bs f.1) (bs f.2)) + txN (bs f.2)) /\ ((0 = 0) /\ ((b = b) /\ ((k = k) /\ ((0 = 0) /\ ((List.length u.1 = List.length t.1) /\ ((s' = s) /\ ((u.3 = t.3) /\ ((Eq (α :=
  List Value) (gC enF (u.1 ++ u.2)) (gC enF (t.1 ++ t.2))) /\ ((Plain (gC enF (u.1 ++ u.2))) /\ ((Eq (α := List Value) (bCells o) (List.take (ptN (Row.mk [] true (Ob.cells
  true)) (4 : Int) (16 : Int) (fdI z2 (List.length t.1) (bs f.1) (bs f.2)) * 1) (List.drop 0 (ptC (Row.mk [] true (Ob.cells true)) (4 : Int) (16 : Int) (fdI z2 (List.length
  t.1) (bs f.1) (bs f.2)))) ++ List.take (txN (bs f.2) * 1) (List.drop 0 (txC (bs f.2))))) /\ ((Plain (bCells o)) /\ True))))))))))))) False) ((0 = 0) /\ ((List.length o =
  ptN (Row.mk [] true (Ob.cells true)) (4 : Int) (16 : Int) (fdI z2 (List.length t.1) (bs f.1) (bs f.2))) /\ ((0 = 0) /\ ((b = b) /\ ((k = k) /\ ((0 = 0) /\ ((List.length
  u.1 = List.length t.1) /\ ((s' = s) /\ ((u.3 = t.3) /\ ((Eq (α := List Value) (gC enF (u.1 ++ u.2)) (gC enF (t.1 ++ t.2))) /\ ((Plain (gC enF (u.1 ++ u.2))) /\ ((Eq (α :=
  List Value) (bCells o) (ptC (Row.mk [] true (Ob.cells true)) (4 : Int) (16 : Int) (fdI z2 (List.length t.1) (bs f.1) (bs f.2)))) /\ ((Plain (bCells o)) /\
  True)))))))))))))) False) False) False)))) ((((True /\ (True /\ (True /\ (True /\ True)))) /\ ((True /\ True) /\ ((Plain (ptC (Row.mk [] true (Ob.cells true)) (4 : Int) (0
  : Int) (fdI z2 (List.length t.1) (bs f.1) (bs f.2))) /\ True) /\ (IsB (Row.mk [] true (Ob.cells true)) 0 /\ (((0 : Int) <= (0 : Int) /\ (0 : Int) < (256 : Int)) /\ 0 <=
  16776000)))))) /\ (br (fdI z2 (List.length t.1) (bs f.1) (bs f.2) == (0 : Int)) ((((True /\ True) /\ (True /\ ((Plain (txC (bs f.1)) /\ True) /\ List.length (L (bs f.1))
  <= 1048576)))) /\ (br (decide (0 + txN (bs f.1) * 1 <= List.length (txC (bs f.1)))) (br (allOne (List.take (txN (bs f.1) * 1) (List.drop 0 (txC (bs f.1))))) (br (decide
  (ptN (Row.mk [] true (Ob.cells true)) (4 : Int) (0 : Int) (fdI z2 (List.length t.1) (bs f.1) (bs f.2)) + txN (bs f.1) <= 16777216)) (br (decide (0 < ptN (Row.mk [] true
  (Ob.cells true)) (4 : Int) (0 : Int) (fdI z2 (List.length t.1) (bs f.1) (bs f.2)) + txN (bs f.1) ∨ List.length (ptC (Row.mk [] true (Ob.cells true)) (4 : Int) (0 : Int)
  (fdI z2 (List.length t.1) (bs f.1) (bs f.2))) = 0)) (br (decide (0 + ptN (Row.mk [] true (Ob.cells true)) (4 : Int) (0 : Int) (fdI z2 (List.length t.1) (bs f.1) (bs f.2))
  * 1 <= List.length (ptC (Row.mk [] true (Ob.cells true)) (4 : Int) (0 : Int) (fdI z2 (List.length t.1) (bs f.1) (bs f.2))))) ((((True /\ True) /\ (True /\ ((Plain (txC (bs
  f.2)) /\ True) /\ List.length (L (bs f.2)) <= 1048576)))) /\ (br (decide (0 + txN (bs f.2) * 1 <= List.length (txC (bs f.2)))) (br (allOne (List.take (txN (bs f.2) * 1)
  (List.drop 0 (txC (bs f.2))))) (br (decide (ptN (Row.mk [] true (Ob.cells true)) (4 : Int) (0 : Int) (fdI z2 (List.length t.1) (bs f.1) (bs f.2)) + txN (bs f.1) + txN (bs
  f.2) <= 16777216)) (br (decide (0 < ptN (Row.mk [] true (Ob.cells true)) (4 : Int) (0 : Int) (fdI z2 (List.length t.1) (bs f.1) (bs f.2)) + txN (bs f.1) + txN (bs f.2) ∨
  List.length (List.take (ptN (Row.mk [] true (Ob.cells true)) (4 : Int) (0 : Int) (fdI z2 (List.length t.1) (bs f.1) (bs f.2)) * 1) (List.drop 0 (ptC (Row.mk [] true
  (Ob.cells true)) (4 : Int) (0 : Int) (fdI z2 (List.length t.1) (bs f.1) (bs f.2)))) ++ List.take (txN (bs f.1) * 1) (List.drop 0 (txC (bs f.1)))) = 0)) (br (decide (0 +
  (ptN (Row.mk [] true (Ob.cells true)) (4 : Int) (0 : Int) (fdI z2 (List.length t.1) (bs f.1) (bs f.2)) + txN (bs f.1)) * 1 <= List.length (List.take (ptN (Row.mk [] true
  (Ob.cells true)) (4 : Int) (0 : Int) (fdI z2 (List.length t.1) (bs f.1) (bs f.2)) * 1) (List.drop 0 (ptC (Row.mk [] true (Ob.cells true)) (4 : Int) (0 : Int) (fdI z2
  (List.length t.1) (bs f.1) (bs f.2)))) ++ List.take (txN (bs f.1) * 1) (List.drop 0 (txC (bs f.1)))))) ((0 = 0) /\ ((List.length o = ptN (Row.mk [] true (Ob.cells true))
  (4 : Int) (0 : Int) (fdI z2 (List.length t.1) (bs f.1) (bs f.2)) + txN (bs f.1) + txN (bs f.2)) /\ ((0 = 0) /\ ((b = b) /\ ((k = k) /\ ((0 = 0) /\ ((List.length u.1 =
  List.length t.1) /\ ((s' = s) /\ ((u.3 = t.3) /\ ((Eq (α := List Value) (gC enF (u.1 ++ u.2)) (gC enF (t.1 ++ t.2))) /\ ((Plain (gC enF (u.1 ++ u.2))) /\ ((Eq (α := List
  Value) (bCells o) (List.take ((ptN (Row.mk [] true (Ob.cells true)) (4 : Int) (0 : Int) (fdI z2 (List.length t.1) (bs f.1) (bs f.2)) + txN (bs f.1)) * 1) (List.drop 0
  (List.take (ptN (Row.mk [] true (Ob.cells true)) (4 : Int) (0 : Int) (fdI z2 (List.length t.1) (bs f.1) (bs f.2)) * 1) (List.drop 0 (ptC (Row.mk [] true (Ob.cells true))
  (4 : Int) (0 : Int) (fdI z2 (List.length t.1) (bs f.1) (bs f.2)))) ++ List.take (txN (bs f.1) * 1) (List.drop 0 (txC (bs f.1))))) ++ List.take (txN (bs f.2) * 1)
  (List.drop 0 (txC (bs f.2))))) /\ ((Plain (bCells o)) /\ True))))))))))))) False) ((0 = 0) /\ ((List.length o = ptN (Row.mk [] true (Ob.cells true)) (4 : Int) (0 : Int)
  (fdI z2 (List.length t.1) (bs f.1) (bs f.2)) + txN (bs f.1)) /\ ((0 = 0) /\ ((b = b) /\ ((k = k) /\ ((0 = 0) /\ ((List.length u.1 = List.length t.1) /\ ((s' = s) /\ ((u.3
  = t.3) /\ ((Eq (α := List Value) (gC enF (u.1 ++ u.2)) (gC enF (t.1 ++ t.2))) /\ ((Plain (gC enF (u.1 ++ u.2))) /\ ((Eq (α := List Value) (bCells o) (List.take (ptN
  (Row.mk [] true (Ob.cells true)) (4 : Int) (0 : Int) (fdI z2 (List.length t.1) (bs f.1) (bs f.2)) * 1) (List.drop 0 (ptC (Row.mk [] true (Ob.cells true)) (4 : Int) (0 :
  Int) (fdI z2 (List.length t.1) (bs f.1) (bs f.2)))) ++ List.take (txN (bs f.1) * 1) (List.drop 0 (txC (bs f.1))))) /\ ((Plain (bCells o)) /\ True)))))))))))))) False)
  False) False)) False) ((((True /\ True) /\ (True /\ ((Plain (txC (bs f.2)) /\ True) /\ List.length (L (bs f.2)) <= 1048576)))) /\ (br (decide (0 + txN (bs f.2) * 1 <=
  List.length (txC (bs f.2)))) (br (allOne (List.take (txN (bs f.2) * 1) (List.drop 0 (txC (bs f.2))))) (br (decide (ptN (Row.mk [] true (Ob.cells true)) (4 : Int) (0 : Int)
  (fdI z2 (List.length t.1) (bs f.1) (bs f.2)) + txN (bs f.2) <= 16777216)) (br (decide (0 < ptN (Row.mk [] true (Ob.cells true)) (4 : Int) (0 : Int) (fdI z2 (List.length
  t.1) (bs f.1) (bs f.2)) + txN (bs f.2) ∨ List.length (ptC (Row.mk [] true (Ob.cells true)) (4 : Int) (0 : Int) (fdI z2 (List.length t.1) (bs f.1) (bs f.2))) = 0)) (br
  (decide (0 + ptN (Row.mk [] true (Ob.cells true)) (4 : Int) (0 : Int) (fdI z2 (List.length t.1) (bs f.1) (bs f.2)) * 1 <= List.length (ptC (Row.mk [] true (Ob.cells true))
  (4 : Int) (0 : Int) (fdI z2 (List.length t.1) (bs f.1) (bs f.2))))) ((0 = 0) /\ ((List.length o = ptN (Row.mk [] true (Ob.cells true)) (4 : Int) (0 : Int) (fdI z2
  (List.length t.1) (bs f.1) (bs f.2)) + txN (bs f.2)) /\ ((0 = 0) /\ ((b = b) /\ ((k = k) /\ ((0 = 0) /\ ((List.length u.1 = List.length t.1) /\ ((s' = s) /\ ((u.3 = t.3)
  /\ ((Eq (α := List Value) (gC enF (u.1 ++ u.2)) (gC enF (t.1 ++ t.2))) /\ ((Plain (gC enF (u.1 ++ u.2))) /\ ((Eq (α := List Value) (bCells o) (List.take (ptN (Row.mk []
  true (Ob.cells true)) (4 : Int) (0 : Int) (fdI z2 (List.length t.1) (bs f.1) (bs f.2)) * 1) (List.drop 0 (ptC (Row.mk [] true (Ob.cells true)) (4 : Int) (0 : Int) (fdI z2
  (List.length t.1) (bs f.1) (bs f.2)))) ++ List.take (txN (bs f.2) * 1) (List.drop 0 (txC (bs f.2))))) /\ ((Plain (bCells o)) /\ True))))))))))))) False) ((0 = 0) /\
  ((List.length o = ptN (Row.mk [] true (Ob.cells true)) (4 : Int) (0 : Int) (fdI z2 (List.length t.1) (bs f.1) (bs f.2))) /\ ((0 = 0) /\ ((b = b) /\ ((k = k) /\ ((0 = 0) /\
  ((List.length u.1 = List.length t.1) /\ ((s' = s) /\ ((u.3 = t.3) /\ ((Eq (α := List Value) (gC enF (u.1 ++ u.2)) (gC enF (t.1 ++ t.2))) /\ ((Plain (gC enF (u.1 ++ u.2)))
  /\ ((Eq (α := List Value) (bCells o) (ptC (Row.mk [] true (Ob.cells true)) (4 : Int) (0 : Int) (fdI z2 (List.length t.1) (bs f.1) (bs f.2)))) /\ ((Plain (bCells o)) /\
  True)))))))))))))) False) False) False))) False) False) False)) ((((True /\ True) /\ (True /\ ((Plain (txC (bs f.2)) /\ True) /\ List.length (L (bs f.2)) <= 1048576)))) /\
  (br (decide (0 + txN (bs f.2) * 1 <= List.length (txC (bs f.2)))) (br (allOne (List.take (txN (bs f.2) * 1) (List.drop 0 (txC (bs f.2))))) (br (decide (ptN (Row.mk [] true
  (Ob.cells true)) (4 : Int) (0 : Int) (fdI z2 (List.length t.1) (bs f.1) (bs f.2)) + txN (bs f.2) <= 16777216)) (br (decide (0 < ptN (Row.mk [] true (Ob.cells true)) (4 :
  Int) (0 : Int) (fdI z2 (List.length t.1) (bs f.1) (bs f.2)) + txN (bs f.2) ∨ List.length (ptC (Row.mk [] true (Ob.cells true)) (4 : Int) (0 : Int) (fdI z2 (List.length
  t.1) (bs f.1) (bs f.2))) = 0)) (br (decide (0 + ptN (Row.mk [] true (Ob.cells true)) (4 : Int) (0 : Int) (fdI z2 (List.length t.1) (bs f.1) (bs f.2)) * 1 <= List.length
  (ptC (Row.mk [] true (Ob.cells true)) (4 : Int) (0 : Int) (fdI z2 (List.length t.1) (bs f.1) (bs f.2))))) ((0 = 0) /\ ((List.length o = ptN (Row.mk [] true (Ob.cells
  true)) (4 : Int) (0 : Int) (fdI z2 (List.length t.1) (bs f.1) (bs f.2)) + txN (bs f.2)) /\ ((0 = 0) /\ ((b = b) /\ ((k = k) /\ ((0 = 0) /\ ((List.length u.1 = List.length
  t.1) /\ ((s' = s) /\ ((u.3 = t.3) /\ ((Eq (α := List Value) (gC enF (u.1 ++ u.2)) (gC enF (t.1 ++ t.2))) /\ ((Plain (gC enF (u.1 ++ u.2))) /\ ((Eq (α := List Value)
  (bCells o) (List.take (ptN (Row.mk [] true (Ob.cells true)) (4 : Int) (0 : Int) (fdI z2 (List.length t.1) (bs f.1) (bs f.2)) * 1) (List.drop 0 (ptC (Row.mk [] true
  (Ob.cells true)) (4 : Int) (0 : Int) (fdI z2 (List.length t.1) (bs f.1) (bs f.2)))) ++ List.take (txN (bs f.2) * 1) (List.drop 0 (txC (bs f.2))))) /\ ((Plain (bCells o))
  /\ True))))))))))))) False) ((0 = 0) /\ ((List.length o = ptN (Row.mk [] true (Ob.cells true)) (4 : Int) (0 : Int) (fdI z2 (List.length t.1) (bs f.1) (bs f.2))) /\ ((0 =
  0) /\ ((b = b) /\ ((k = k) /\ ((0 = 0) /\ ((List.length u.1 = List.length t.1) /\ ((s' = s) /\ ((u.3 = t.3) /\ ((Eq (α := List Value) (gC enF (u.1 ++ u.2)) (gC enF (t.1 ++
  t.2))) /\ ((Plain (gC enF (u.1 ++ u.2))) /\ ((Eq (α := List Value) (bCells o) (ptC (Row.mk [] true (Ob.cells true)) (4 : Int) (0 : Int) (fdI z2 (List.length t.1) (bs f.1)
  (bs f.2)))) /\ ((Plain (bCells o)) /\ True)))))))))))))) False) False) False)))))); let z3 := (ptC (Row.mk [] true (Ob.cells true)) (7 : Int) (128 : Int) (fdI z2
  (List.length t.1) (bs f.1) (bs f.2))); ((((True /\ ((True /\ (True /\ True)) /\ True)) /\ (((True /\ (True /\ (True /\ True))) /\ (Plain (gC enF (t.1 ++ t.2)) /\ True)) /\
  ((Plain (gC enF (t.1 ++ t.2)) /\ True) /\ IsTg z2 (List.length t.1))))) /\ ((Value.pointer (some (Addr.mk 1 0 none)) = Value.pointer (some (Addr.mk 1 0 none))) /\
  ((Value.agg z4 = Value.agg z4) /\ (br (fdB z2 (List.length t.1) (bs f.1) (bs f.2)) (br (how != (3 : Int)) ((((True /\ (True /\ (True /\ (True /\ True)))) /\ ((True /\
  True) /\ ((Plain z3 /\ True) /\ (IsB (Row.mk [] true (Ob.cells true)) 0 /\ (((0 : Int) <= (128 : Int) /\ (128 : Int) < (256 : Int)) /\ 0 <= 16776000)))))) /\ ((0 = 0) /\
  ((List.length o = ptN (Row.mk [] true (Ob.cells true)) (7 : Int) (128 : Int) (fdI z2 (List.length t.1) (bs f.1) (bs f.2))) /\ ((0 = 0) /\ ((b = b) /\ ((k = k) /\ ((0 = 0)
  /\ ((List.length u.1 = List.length t.1) /\ ((s' = s) /\ ((u.3 = t.3) /\ ((Eq (α := List Value) (gC enF (u.1 ++ u.2)) (gC enF (t.1 ++ t.2))) /\ ((Plain (gC enF (u.1 ++
  u.2))) /\ ((Eq (α := List Value) (bCells o) z3) /\ ((Plain (bCells o)) /\ True)))))))))))))) z1) z1)))) := by kernel_rfl
theorem z_txN : txN = fun s => (txL (L s)).length := Classical.choose_spec (bn_ex _)
theorem z_txC : txC = fun s => bCells (txL (L s)) := Classical.choose_spec (bc_ex _)
theorem eTx_ok : EntOk Try.prog eTx := entC_ok (by
  intro a rows p v news h hp
  split at h <;> simp only [Option.some.injEq, Prod.mk.injEq, reduceCtorEq] at h
  obtain ⟨rfl, rfl, rfl⟩ := h
  rename_i s
  have := Tx_con (L s) (by omega)
  rw [z_txN, z_txC]
  exact this)
theorem tPr_ok : ∀ x ∈ tPr, EntOk Try.prog x := all_cons eTx_ok (all_cons ePt_ok (all_cons eFndT_ok (all_cons eAddT_ok (all_nil))))
theorem txL_le (l : List UInt8) (h : l.length ≤ 1048576) : (txL l).length ≤ l.length + 6 := by
  have := szN_le l
  unfold txL; split
  · have := putB_le 128 7 ((szN l + 7) / 8) (by omega)
    have := encL_le l
    rw [List.length_append]; omega
  · have := putB_le 0 7 l.length (by omega)
    rw [List.length_append]; omega
theorem Rw_con (t : Tb) (f : Fl) (how : Int) (b : Bool) (k : Int) (ok : Ok t) (hn : f.n.length ≤ 1048576) (hv : f.v.length ≤ 1048576) : ConM Try.prog 29 [.pointer (some ⟨0, 0, none⟩), .agg ⟨[.string (bs f.n), .string (bs f.v), .int .i64 how]⟩] [pkC b k, tcR t.l.length (smN t.l : Nat) t.most 2, gOwn enF (t.l ++ t.j)] (slc 4 (rowL t f how).length) 5 [(0, pkC b k), (1, tcR (rowU t f how).l.length (smN (rowU t f how).l : Nat) (rowU t f how).most 3), (3, gOwn enF ((rowU t f how).l ++ (rowU t f how).j)), (4, bOwn (rowL t f how))] := by
  refine conM_vc (E := EtPr) tk.mixed (calls_envT tPr_ok) (lok_envT _ _) (M := noM) lm_none (Rw_vc t _ f how _ _ b k _) ?_
  obtain ⟨q, hq, hq2⟩ := fnd_rng t.l f
  obtain ⟨o1, o2, o3⟩ := ok
  have hl := ok_len t.l
  have hq3 : q ≤ 2147483647 := by omega
  have p1 : putOut [] 7 128 (q : Int) = putB 128 7 q := put_nil 128 7 q (by omega) (by omega) hq3
  have p2 : putOut [] 6 64 (q : Int) = putB 64 6 q := put_nil 64 6 q (by omega) (by omega) hq3
  have p3 : putOut [] 4 16 (q : Int) = putB 16 4 q := put_nil 16 4 q (by omega) (by omega) hq3
  have p4 : putOut [] 4 0 (q : Int) = putB 0 4 q := put_nil 0 4 q (by omega) (by omega) hq3
  have g2 := putB_pos 64 6 q
  have g3 := putB_pos 16 4 q
  have g4 := putB_pos 0 4 q
  have k2 := putB_le 64 6 q hq3
  have k3 := putB_le 16 4 q hq3
  have k4 := putB_le 0 4 q hq3
  have u1 : u8i 128 = 128 := by decide
  have u2 : u8i 64 = 64 := by decide
  have u3 : u8i 16 = 16 := by decide
  have u4 : u8i 0 = 0 := by decide
  have e4 : dB ⟨[], true, .cells true⟩ = [] := rfl
  have ib : IsB ⟨[], true, .cells true⟩ 0 := ⟨[], rfl, rfl⟩
  have it := isTg_mk t.l t.j (by omega)
  have ibt := isTb_mk t ⟨o1, o2, o3⟩
  have hf : fbZ (bs f.n) (bs f.v) ≤ 100000000 := by rw [z_fbZ]; unfold fbN; rw [L_bs, L_bs]; simp only; omega
  have dI : fdI ⟨gC enF (t.l ++ t.j), false, .cells true⟩ t.l.length (bs f.n) (bs f.v) = (q : Int) := (fd_mk _ _ _ _ _ _).1.trans hq
  have dB' : fdB ⟨gC enF (t.l ++ t.j), false, .cells true⟩ t.l.length (bs f.n) (bs f.v) = (fndF t.l f).2 := (fd_mk _ _ _ _ _ _).2
  have tn := txL_le f.n hn
  have tv := txL_le f.v hv
  obtain ⟨aN, aS, aC⟩ := ad_mk t.l t.j t.most f.n f.v
  have a1 : ∀ l : List UInt8, allOne (bCells l) = true := bCells_one
  simp only [ofNat_eq, toNat_cast, Nat.zero_add, Nat.add_zero, Nat.mul_one, List.drop_zero, bCells_len, bCells_drop, bCells_take, bCells_app, bCells_one, bCells_plain, List.length_replicate, List.length_append, List.length_take, List.length_drop, List.take_length, and_true, true_and, and_self, decide_true, List.length_nil, List.length_cons, Nat.sub_zero, dB_mk, dB_ro, List.take_zero, z_ptN, z_ptC, z_txN, z_txC, L_bs, fPl, e4, u1, u2, u3, u4, dI, dB', p1, p2, p3, p4, aN, aS, aC, ib, it, ibt, br_tt0]
  have r1 : rowL t f how = if (fndF t.l f).2 = true ∧ how ≠ 3 then putB 128 7 q else hdL how q ++ (if q = 0 then txL f.n else []) ++ txL f.v := by
    unfold rowL; rw [hq]; simp
  simp (disch := omega) only [brT]
  have tk2 : ∀ a b : List UInt8, List.take (a.length + b.length) (a ++ b) = a ++ b := fun a b => List.take_of_length_le (by rw [List.length_append]; omega)
  simp only [tk2]
  by_cases hc : (fndF t.l f).2 = true ∧ how ≠ 3
  · have e1 : rowL t f how = putB 128 7 q := by rw [r1, if_pos hc]
    have e2 : rowU t f how = t := if_pos hc
    rw [e1, e2, hc.1]
    exact br_b rfl (br_b (by simpa using hc.2) ⟨by omega, rfl, rfl, rfl, rfl, rfl, rfl⟩)
  · have e2 : rowU t f how = if how = 1 then addT t f else t := if_neg hc
    have e1 : rowL t f how = hdL how q ++ (if q = 0 then txL f.n else []) ++ txL f.v := by rw [r1, if_neg hc]
    clear r1
    refine br_intro (fun hw => br_nb (by simpa [hw] using hc) ?_) (fun hw => ?_)
    all_goals
      refine br_intro (fun h1 => ?_) (fun h1 => br_intro (fun h2 => ?_) (fun h2 => ?_))
      · have h1 : how = 1 := eq_of_beq h1
        rw [show hdL how q = putB 64 6 q from if_pos h1] at e1
        rw [if_pos h1] at e2
        refine ⟨by omega, ⟨hf, by omega, by omega⟩, br_intro (fun hz => ?_) (fun hz => ?_)⟩
        · rw [if_pos (by simpa using hz)] at e1
          rw [e1, e2]
          exact ⟨hn, br_dec (by omega) ⟨hv, br_dec (by omega) ⟨by simp only [List.length_append], rfl, rfl, addT_m _ _, rfl, rfl⟩⟩⟩
        · rw [if_neg (by simpa using hz), List.append_nil] at e1
          rw [e1, e2]
          exact ⟨hv, br_dec (by omega) ⟨by simp only [List.length_append], rfl, rfl, addT_m _ _, rfl, rfl⟩⟩
      · have h1 : how ≠ 1 := by simpa using h1
        have h2 : how = 3 := eq_of_beq h2
        rw [show hdL how q = putB 16 4 q from (if_neg h1).trans (if_pos h2)] at e1
        rw [if_neg h1] at e2
        refine ⟨by omega, br_intro (fun hz => ?_) (fun hz => ?_)⟩
        · rw [if_pos (by simpa using hz)] at e1
          rw [e1, e2]
          exact ⟨hn, br_dec (by omega) ⟨hv, br_dec (by omega) ⟨by simp only [List.length_append], rfl, rfl, rfl, rfl, rfl⟩⟩⟩
        · rw [if_neg (by simpa using hz), List.append_nil] at e1
          rw [e1, e2]
          exact ⟨hv, br_dec (by omega) ⟨by simp only [List.length_append], rfl, rfl, rfl, rfl, rfl⟩⟩
      · have h1 : how ≠ 1 := by simpa using h1
        have h2 : how ≠ 3 := by simpa using h2
        rw [show hdL how q = putB 0 4 q from (if_neg h1).trans (if_neg h2)] at e1
        rw [if_neg h1] at e2
        refine ⟨by omega, br_intro (fun hz => ?_) (fun hz => ?_)⟩
        · rw [if_pos (by simpa using hz)] at e1
          rw [e1, e2]
          exact ⟨hn, br_dec (by omega) ⟨hv, br_dec (by omega) ⟨by simp only [List.length_append], rfl, rfl, rfl, rfl, rfl⟩⟩⟩
        · rw [if_neg (by simpa using hz), List.append_nil] at e1
          rw [e1, e2]
          exact ⟨hv, br_dec (by omega) ⟨by simp only [List.length_append], rfl, rfl, rfl, rfl, rfl⟩⟩
end Go.Proofs.Ytlkinjlbaeigdaa.pk
