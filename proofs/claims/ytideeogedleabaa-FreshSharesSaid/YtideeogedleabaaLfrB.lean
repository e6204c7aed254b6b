/- How long a response is fresh, how old it is: the program. -/
import Derived.Test.YtideeogedleabaaSz9
import Derived.Test.YtideeogedleabaaRows
import Derived.Test.YtideeogedleabaaLtkEnts
import Derived.Test.YtideeogedleabaaLctOf
import Derived.Test.YtideeogedleabaaLdayrs2
import Derived.Test.YtideeogedleabaaLkp
import Derived.Test.YtideeogedleabaaLwgS
set_option maxRecDepth 20000
set_option linter.unusedSimpArgs false
set_option linter.unusedVariables false
namespace Go.Proofs.Ytideeogedleabaa.tk
open Go Go.Ev Go.Sy Go.RowKit Go.Proofs.Ytideeogedleabaa.gl
def sDate : List UInt8 := [100, 97, 116, 101]
def sLast : List UInt8 := [108, 97, 115, 116, 45, 109, 111, 100, 105, 102, 105, 101, 100]
def sAgeN : List UInt8 := [97, 103, 101]
def lim (n : Int) : Int := min (max n 0) 2147483647
def dtO (l : List Fl) (nm : List UInt8) : Option Nat := if allN nm l = 1 then rdL (allL l nm) else none
def dtJ : Option Nat → Int
  | some k => (k : Int)
  | none => 0
def orL (l : List Fl) (came : Int) : Int := if (dtO l sDate).isSome then dtJ (dtO l sDate) else lim came
def lifeL (l : List Fl) (came st : Int) (sh : Nat) : Int :=
  if 0 ≤ (ctlL l).sh then (ctlL l).sh else if 0 ≤ (ctlL l).ma then (ctlL l).ma else
  if 0 < allN sExp l then (if (dtO l sExp).isSome then max (dtJ (dtO l sExp) - orL l came) 0 else 0)
  else if (dtO l sLast).isSome ∧ dtJ (dtO l sLast) ≤ orL l came ∧ plB st = true then Go.Proofs.Ytideeogedleabaa.fl.shr (Go.Proofs.Ytideeogedleabaa.fl.lim (orL l came - dtJ (dtO l sLast))) (Go.Proofs.Ytideeogedleabaa.fl.cl sh) else 0
def toldL (l : List Fl) : Int := if allN sAgeN l = 1 then max (secL (allL l sAgeN)) 0 else 0
theorem int_ex (n : Int) : ∃ v : Int, v = n := ⟨n, rfl⟩
theorem bool_ex (n : Bool) : ∃ v : Bool, v = n := ⟨n, rfl⟩
noncomputable def dtI (r : Row) (s : ByteArray) : Int := Classical.choose (int_ex (dtJ (dtO (decF r.cells) (L s))))
noncomputable def dtB (r : Row) (s : ByteArray) : Bool := Classical.choose (bool_ex (dtO (decF r.cells) (L s)).isSome)
noncomputable def orR (r : Row) (came : Int) : Int := Classical.choose (int_ex (orL (decF r.cells) came))
noncomputable def lifeR (r : Row) (came st : Int) (sh : Nat) : Int := Classical.choose (int_ex (lifeL (decF r.cells) came st sh))
noncomputable def toldR (r : Row) : Int := Classical.choose (int_ex (toldL (decF r.cells)))
noncomputable def limR (n : Int) : Int := Classical.choose (int_ex (lim n))
noncomputable def rdJ (s : ByteArray) : Int := Classical.choose (int_ex (rdI s))
noncomputable def rdC (s : ByteArray) : Bool := Classical.choose (bool_ex (rdB s))
def BgL (l : List Fl) : Prop := ∀ nm, (allL l nm).length ≤ 16777000
def BgR (r : Row) : Prop := BgL (decF r.cells)
noncomputable def eRd : EntM := entC 47 fun a r => match a, r with
  | [.string s], [] => some ((L s).length ≤ maxLen, .tuple #[.int .i64 (rdJ s), .bool (rdC s)], [])
  | _, _ => none
noncomputable def eCo : EntM := entC 22 fun a r => match a, r with
  | [.slice (some ⟨0, 0, none⟩) n 2], [r0] => some (IsF r0 n ∧ n ≤ maxLen ∧ BgR r0, .agg ⟨enC (ctR r0)⟩, [])
  | _, _ => none
noncomputable def eClm : EntM := entC 28 fun a r => match a, r with
  | [.int .i64 n], [] => some (True, .int .i64 (limR n), [])
  | _, _ => none
noncomputable def eSe : EntM := entC 49 fun a r => match a, r with
  | [.string s], [] => some ((L s).length ≤ maxLen, .int .i64 (secS s), [])
  | _, _ => none
noncomputable def ePl : EntM := entC 26 fun a r => match a, r with
  | [.int .i64 n], [] => some (True, .bool (plB n), [])
  | _, _ => none
noncomputable def eSh : EntM := entC 27 fun a r => match a, r with
  | [.int .i64 n, .float .f64 b], [] => some (True, .int .i64 (Go.Proofs.Ytideeogedleabaa.fl.share n b), [])
  | _, _ => none
noncomputable def eDt : EntM := entC 25 fun a r => match a, r with
  | [.slice (some ⟨0, 0, none⟩) n 2, .string s], [r0] => some (IsF r0 n ∧ n ≤ maxLen ∧ BgR r0, .tuple #[.int .i64 (dtI r0 s), .bool (dtB r0 s)], [])
  | _, _ => none
noncomputable def eOr : EntM := entC 23 fun a r => match a, r with
  | [.agg ⟨[.string m, .string s, .string a, .string p, .slice (some ⟨0, 0, none⟩) n0 2, .int .i64 k, .int .i64 st, .slice (some ⟨1, 0, none⟩) n 2, .int .i64 k2, .string body, .int .i64 asked, .int .i64 came]⟩], [r0, r] => some (IsF r0 n0 ∧ IsF r n ∧ n0 ≤ maxLen ∧ n ≤ maxLen ∧ BgR r, .int .i64 (orR r came), [])
  | _, _ => none
noncomputable def eTo : EntM := entC 29 fun a r => match a, r with
  | [.agg ⟨[.string m, .string s, .string a, .string p, .slice (some ⟨0, 0, none⟩) n0 2, .int .i64 k, .int .i64 st, .slice (some ⟨1, 0, none⟩) n 2, .int .i64 k2, .string body, .int .i64 asked, .int .i64 came]⟩], [r0, r] => some (IsF r0 n0 ∧ IsF r n ∧ n0 ≤ maxLen ∧ n ≤ maxLen ∧ BgR r, .int .i64 (toldR r), [])
  | _, _ => none
noncomputable def eLi : EntM := entC 9 fun a r => match a, r with
  | [.agg ⟨[.string m, .string s, .string a, .string p, .slice (some ⟨0, 0, none⟩) n0 2, .int .i64 k, .int .i64 st, .slice (some ⟨1, 0, none⟩) n 2, .int .i64 k2, .string body, .int .i64 asked, .int .i64 came]⟩, .float .f64 sh], [r0, r] => some (IsF r0 n0 ∧ IsF r n ∧ n0 ≤ maxLen ∧ n ≤ maxLen ∧ BgR r, .int .i64 (lifeR r came st sh), [])
  | _, _ => none
noncomputable def tFa : List EntM := [eAl, eRd]
noncomputable abbrev EtFa : Env := envT Try.prog tFa
noncomputable def tFb : List EntM := [eAl, eDt, eCo, eSe, ePl, eSh, eClm]
noncomputable abbrev EtFb : Env := envT Try.prog tFb
noncomputable def tFc : List EntM := [eAl, eDt, eCo, eSe, ePl, eSh, eClm, eOr, eTo]
noncomputable abbrev EtFc : Env := envT Try.prog tFc
structure En12 where
  m : ByteArray
  s : ByteArray
  a : ByteArray
  p : ByteArray
  k : Int
  st : Int
  k2 : Int
  body : ByteArray
  asked : Int
  came : Int
def enT (x : En12) (r0 n0 r1 n1 : Nat) : List Value := [.string x.m, .string x.s, .string x.a, .string x.p, .slice (some ⟨r0, 0, none⟩) n0 2, .int .i64 x.k, .int .i64 x.st, .slice (some ⟨r1, 0, none⟩) n1 2, .int .i64 x.k2, .string x.body, .int .i64 x.asked, .int .i64 x.came]
theorem Dt_vc (l : List Fl) (s : List UInt8) (v : Int) (b : Bool) : mcall EtFa noM 60 25 [.slice (some ⟨0, 0, none⟩) l.length 2, .string (bs s)] ⟨mkR (nums 0 [gRo enF l]), 1⟩ (retIs 1 (.tuple #[.int .i64 v, .bool b]) [gRo enF l]) =
  (((((0 + List.length l * 2 <= List.length (gC enF l) /\ Plain (List.take (List.length l * 2) (List.drop 0 (gC enF l)))) /\ (True /\ True)) /\ ((True /\ True) /\ (True /\
  (IsF (Row.mk (List.take (List.length l * 2) (List.drop 0 (gC enF l))) true (Ob.cells true)) (List.length l) /\ (List.length l <= 9223372036854775807 /\ alB (Row.mk
  (List.take (List.length l * 2) (List.drop 0 (gC enF l))) true (Ob.cells true)) (bs s) <= 16777216)))))) /\ (br (alN (Row.mk (List.take (List.length l * 2) (List.drop 0 (gC
  enF l))) true (Ob.cells true)) (bs s) != (1 : Int)) ((v = (0 : Int)) /\ ((b = false) /\ ((Eq (α := List Value) (gC enF l) (gC enF l)) /\ ((Plain (gC enF l)) /\ True))))
  ((((True /\ True) /\ (True /\ (True /\ List.length (L (alV (Row.mk (List.take (List.length l * 2) (List.drop 0 (gC enF l))) true (Ob.cells true)) (bs s))) <=
  9223372036854775807)))) /\ ((v = rdJ (alV (Row.mk (List.take (List.length l * 2) (List.drop 0 (gC enF l))) true (Ob.cells true)) (bs s))) /\ ((b = rdC (alV (Row.mk
  (List.take (List.length l * 2) (List.drop 0 (gC enF l))) true (Ob.cells true)) (bs s))) /\ ((Eq (α := List Value) (gC enF l) (gC enF l)) /\ ((Plain (gC enF l)) /\
  True))))))) := by kernel_rfl
theorem Or_vc (x : En12) (d l : List Fl) (v : Int) : mcall EtFb noM 60 23 [.agg ⟨enT x 0 d.length 1 l.length⟩] ⟨mkR (nums 0 [gRo enF d, gRo enF l]), 2⟩ (retIs 2 (.int .i64 v) [gRo enF d, gRo enF l]) =
  (((((0 + List.length l * 2 <= List.length (gC enF l) /\ Plain (List.take (List.length l * 2) (List.drop 0 (gC enF l)))) /\ (True /\ True)) /\ ((True /\ True) /\ (True /\
  (IsF (Row.mk (List.take (List.length l * 2) (List.drop 0 (gC enF l))) true (Ob.cells true)) (List.length l) /\ (List.length l <= 9223372036854775807 /\ BgR (Row.mk
  (List.take (List.length l * 2) (List.drop 0 (gC enF l))) true (Ob.cells true)))))))) /\ (br (dtB (Row.mk (List.take (List.length l * 2) (List.drop 0 (gC enF l))) true
  (Ob.cells true)) (ByteArray.mk #[100, 97, 116, 101])) ((v = dtI (Row.mk (List.take (List.length l * 2) (List.drop 0 (gC enF l))) true (Ob.cells true)) (ByteArray.mk #[100,
  97, 116, 101])) /\ ((Eq (α := List Value) (gC enF d) (gC enF d)) /\ ((Plain (gC enF d)) /\ ((Eq (α := List Value) (gC enF l) (gC enF l)) /\ ((Plain (gC enF l)) /\
  True))))) ((((True /\ True) /\ (True /\ (True /\ True)))) /\ ((v = limR x.10) /\ ((Eq (α := List Value) (gC enF d) (gC enF d)) /\ ((Plain (gC enF d)) /\ ((Eq (α := List
  Value) (gC enF l) (gC enF l)) /\ ((Plain (gC enF l)) /\ True)))))))) := by kernel_rfl
theorem To_vc (x : En12) (d l : List Fl) (v : Int) : mcall EtFb noM 60 29 [.agg ⟨enT x 0 d.length 1 l.length⟩] ⟨mkR (nums 0 [gRo enF d, gRo enF l]), 2⟩ (retIs 2 (.int .i64 v) [gRo enF d, gRo enF l]) =
  (((((0 + List.length l * 2 <= List.length (gC enF l) /\ Plain (List.take (List.length l * 2) (List.drop 0 (gC enF l)))) /\ (True /\ True)) /\ ((True /\ True) /\ (True /\
  (IsF (Row.mk (List.take (List.length l * 2) (List.drop 0 (gC enF l))) true (Ob.cells true)) (List.length l) /\ (List.length l <= 9223372036854775807 /\ alB (Row.mk
  (List.take (List.length l * 2) (List.drop 0 (gC enF l))) true (Ob.cells true)) (ByteArray.mk #[97, 103, 101]) <= 16777216)))))) /\ (br (alN (Row.mk (List.take (List.length
  l * 2) (List.drop 0 (gC enF l))) true (Ob.cells true)) (ByteArray.mk #[97, 103, 101]) != (1 : Int)) ((v = (0 : Int)) /\ ((Eq (α := List Value) (gC enF d) (gC enF d)) /\
  ((Plain (gC enF d)) /\ ((Eq (α := List Value) (gC enF l) (gC enF l)) /\ ((Plain (gC enF l)) /\ True))))) ((((True /\ True) /\ (True /\ (True /\ List.length (L (alV (Row.mk
  (List.take (List.length l * 2) (List.drop 0 (gC enF l))) true (Ob.cells true)) (ByteArray.mk #[97, 103, 101]))) <= 9223372036854775807)))) /\ ((v = if (0 : Int) > secS
  (alV (Row.mk (List.take (List.length l * 2) (List.drop 0 (gC enF l))) true (Ob.cells true)) (ByteArray.mk #[97, 103, 101])) then (0 : Int) else secS (alV (Row.mk
  (List.take (List.length l * 2) (List.drop 0 (gC enF l))) true (Ob.cells true)) (ByteArray.mk #[97, 103, 101]))) /\ ((Eq (α := List Value) (gC enF d) (gC enF d)) /\ ((Plain
  (gC enF d)) /\ ((Eq (α := List Value) (gC enF l) (gC enF l)) /\ ((Plain (gC enF l)) /\ True)))))))) := by kernel_rfl
theorem Li_vc (x : En12) (d l : List Fl) (sh : Nat) (v : Int) : mcall EtFc noM 60 9 [.agg ⟨enT x 0 d.length 1 l.length⟩, .float .f64 sh] ⟨mkR (nums 0 [gRo enF d, gRo enF l]), 2⟩ (retIs 2 (.int .i64 v) [gRo enF d, gRo enF l]) =
  (((((0 + List.length l * 2 <= List.length (gC enF l) /\ Plain (List.take (List.length l * 2) (List.drop 0 (gC enF l)))) /\ True) /\ ((True /\ True) /\ (True /\ (IsF
  (Row.mk (List.take (List.length l * 2) (List.drop 0 (gC enF l))) true (Ob.cells true)) (List.length l) /\ (List.length l <= 9223372036854775807 /\ BgR (Row.mk (List.take
  (List.length l * 2) (List.drop 0 (gC enF l))) true (Ob.cells true)))))))) /\ (br (decide ((ctR (Row.mk (List.take (List.length l * 2) (List.drop 0 (gC enF l))) true
  (Ob.cells true))).8 ≥ (0 : Int))) ((v = (ctR (Row.mk (List.take (List.length l * 2) (List.drop 0 (gC enF l))) true (Ob.cells true))).8) /\ ((Eq (α := List Value) (gC enF
  d) (gC enF d)) /\ ((Plain (gC enF d)) /\ ((Eq (α := List Value) (gC enF l) (gC enF l)) /\ ((Plain (gC enF l)) /\ True))))) (br (decide ((ctR (Row.mk (List.take
  (List.length l * 2) (List.drop 0 (gC enF l))) true (Ob.cells true))).7 ≥ (0 : Int))) ((v = (ctR (Row.mk (List.take (List.length l * 2) (List.drop 0 (gC enF l))) true
  (Ob.cells true))).7) /\ ((Eq (α := List Value) (gC enF d) (gC enF d)) /\ ((Plain (gC enF d)) /\ ((Eq (α := List Value) (gC enF l) (gC enF l)) /\ ((Plain (gC enF l)) /\
  True))))) (((((True /\ (True /\ (True /\ (True /\ ((0 + List.length d * 2 <= List.length (gC enF d) /\ Plain (List.take (List.length d * 2) (List.drop 0 (gC enF d)))) /\
  (True /\ (True /\ ((0 + List.length l * 2 <= List.length (gC enF l) /\ Plain (List.take (List.length l * 2) (List.drop 0 (gC enF l)))) /\ (True /\ (True /\ (True /\ (True
  /\ True)))))))))))) /\ True) /\ ((True /\ (True /\ True)) /\ (True /\ (IsF (Row.mk (List.take (List.length d * 2) (List.drop 0 (gC enF d))) true (Ob.cells true))
  (List.length d) /\ (IsF (Row.mk (List.take (List.length l * 2) (List.drop 0 (gC enF l))) true (Ob.cells true)) (List.length l) /\ (List.length d <= 9223372036854775807 /\
  (List.length l <= 9223372036854775807 /\ BgR (Row.mk (List.take (List.length l * 2) (List.drop 0 (gC enF l))) true (Ob.cells true)))))))))) /\ (((((0 + List.length l * 2
  <= List.length (gC enF l) /\ Plain (List.take (List.length l * 2) (List.drop 0 (gC enF l)))) /\ (True /\ True)) /\ ((True /\ True) /\ (True /\ (IsF (Row.mk (List.take
  (List.length l * 2) (List.drop 0 (gC enF l))) true (Ob.cells true)) (List.length l) /\ (List.length l <= 9223372036854775807 /\ alB (Row.mk (List.take (List.length l * 2)
  (List.drop 0 (gC enF l))) true (Ob.cells true)) (ByteArray.mk #[101, 120, 112, 105, 114, 101, 115]) <= 16777216)))))) /\ (br (decide (alN (Row.mk (List.take (List.length l
  * 2) (List.drop 0 (gC enF l))) true (Ob.cells true)) (ByteArray.mk #[101, 120, 112, 105, 114, 101, 115]) > (0 : Int))) (((((0 + List.length l * 2 <= List.length (gC enF l)
  /\ Plain (List.take (List.length l * 2) (List.drop 0 (gC enF l)))) /\ (True /\ True)) /\ ((True /\ True) /\ (True /\ (IsF (Row.mk (List.take (List.length l * 2) (List.drop
  0 (gC enF l))) true (Ob.cells true)) (List.length l) /\ (List.length l <= 9223372036854775807 /\ BgR (Row.mk (List.take (List.length l * 2) (List.drop 0 (gC enF l))) true
  (Ob.cells true)))))))) /\ (br (!dtB (Row.mk (List.take (List.length l * 2) (List.drop 0 (gC enF l))) true (Ob.cells true)) (ByteArray.mk #[101, 120, 112, 105, 114, 101,
  115])) ((v = (0 : Int)) /\ ((Eq (α := List Value) (gC enF d) (gC enF d)) /\ ((Plain (gC enF d)) /\ ((Eq (α := List Value) (gC enF l) (gC enF l)) /\ ((Plain (gC enF l)) /\
  True))))) ((v = if (0 : Int) > IntKind.wrap IntKind.i64 (dtI (Row.mk (List.take (List.length l * 2) (List.drop 0 (gC enF l))) true (Ob.cells true)) (ByteArray.mk #[101,
  120, 112, 105, 114, 101, 115]) - orR (Row.mk (List.take (List.length l * 2) (List.drop 0 (gC enF l))) true (Ob.cells true)) x.10) then (0 : Int) else IntKind.wrap
  IntKind.i64 (dtI (Row.mk (List.take (List.length l * 2) (List.drop 0 (gC enF l))) true (Ob.cells true)) (ByteArray.mk #[101, 120, 112, 105, 114, 101, 115]) - orR (Row.mk
  (List.take (List.length l * 2) (List.drop 0 (gC enF l))) true (Ob.cells true)) x.10)) /\ ((Eq (α := List Value) (gC enF d) (gC enF d)) /\ ((Plain (gC enF d)) /\ ((Eq (α :=
  List Value) (gC enF l) (gC enF l)) /\ ((Plain (gC enF l)) /\ True))))))) (((((0 + List.length l * 2 <= List.length (gC enF l) /\ Plain (List.take (List.length l * 2)
  (List.drop 0 (gC enF l)))) /\ (True /\ True)) /\ ((True /\ True) /\ (True /\ (IsF (Row.mk (List.take (List.length l * 2) (List.drop 0 (gC enF l))) true (Ob.cells true))
  (List.length l) /\ (List.length l <= 9223372036854775807 /\ BgR (Row.mk (List.take (List.length l * 2) (List.drop 0 (gC enF l))) true (Ob.cells true)))))))) /\ (br (!dtB
  (Row.mk (List.take (List.length l * 2) (List.drop 0 (gC enF l))) true (Ob.cells true)) (ByteArray.mk #[108, 97, 115, 116, 45, 109, 111, 100, 105, 102, 105, 101, 100])) ((v
  = (0 : Int)) /\ ((Eq (α := List Value) (gC enF d) (gC enF d)) /\ ((Plain (gC enF d)) /\ ((Eq (α := List Value) (gC enF l) (gC enF l)) /\ ((Plain (gC enF l)) /\ True)))))
  (br (decide (dtI (Row.mk (List.take (List.length l * 2) (List.drop 0 (gC enF l))) true (Ob.cells true)) (ByteArray.mk #[108, 97, 115, 116, 45, 109, 111, 100, 105, 102,
  105, 101, 100]) > orR (Row.mk (List.take (List.length l * 2) (List.drop 0 (gC enF l))) true (Ob.cells true)) x.10)) ((v = (0 : Int)) /\ ((Eq (α := List Value) (gC enF d)
  (gC enF d)) /\ ((Plain (gC enF d)) /\ ((Eq (α := List Value) (gC enF l) (gC enF l)) /\ ((Plain (gC enF l)) /\ True))))) ((((True /\ True) /\ (True /\ (True /\ True)))) /\
  (br (!plB x.6) ((v = (0 : Int)) /\ ((Eq (α := List Value) (gC enF d) (gC enF d)) /\ ((Plain (gC enF d)) /\ ((Eq (α := List Value) (gC enF l) (gC enF l)) /\ ((Plain (gC enF
  l)) /\ True))))) ((((True /\ (True /\ True)) /\ (True /\ (True /\ True)))) /\ ((v = fl.share (IntKind.wrap IntKind.i64 (orR (Row.mk (List.take (List.length l * 2)
  (List.drop 0 (gC enF l))) true (Ob.cells true)) x.10 - dtI (Row.mk (List.take (List.length l * 2) (List.drop 0 (gC enF l))) true (Ob.cells true)) (ByteArray.mk #[108, 97,
  115, 116, 45, 109, 111, 100, 105, 102, 105, 101, 100]))) sh) /\ ((Eq (α := List Value) (gC enF d) (gC enF d)) /\ ((Plain (gC enF d)) /\ ((Eq (α := List Value) (gC enF l)
  (gC enF l)) /\ ((Plain (gC enF l)) /\ True))))))))))))))))) := by kernel_rfl
theorem Cm_vc (n v : Int) : mcall E0 noM 60 28 [.int .i64 n] ⟨mkR (nums 0 []), 0⟩ (retIs 0 (.int .i64 v) []) =
  ((v = if (2147483647 : Int) < if (0 : Int) > n then (0 : Int) else n then (2147483647 : Int) else if (0 : Int) > n then (0 : Int) else n) /\ True) := by kernel_rfl
theorem Pl_vc (n : Int) (v : Bool) : mcall E0 noM 60 26 [.int .i64 n] ⟨mkR (nums 0 []), 0⟩ (retIs 0 (.bool v) []) =
  (br (n == (200 : Int)) ((v = true) /\ True) (br (n == (203 : Int)) ((v = true) /\ True) (br (n == (204 : Int)) ((v = true) /\ True) (br (n == (300 : Int)) ((v = true) /\
  True) (br (n == (301 : Int)) ((v = true) /\ True) (br (n == (308 : Int)) ((v = true) /\ True) (br (n == (404 : Int)) ((v = true) /\ True) (br (n == (405 : Int)) ((v =
  true) /\ True) (br (n == (410 : Int)) ((v = true) /\ True) (br (n == (414 : Int)) ((v = true) /\ True) (br (n == (501 : Int)) ((v = true) /\ True) ((v = false) /\
  True)))))))))))) := by kernel_rfl
theorem z_dtI (r : Row) (s : ByteArray) : dtI r s = dtJ (dtO (decF r.cells) (L s)) := Classical.choose_spec (int_ex _)
theorem z_dtB (r : Row) (s : ByteArray) : dtB r s = (dtO (decF r.cells) (L s)).isSome := Classical.choose_spec (bool_ex _)
theorem z_orR (r : Row) (c : Int) : orR r c = orL (decF r.cells) c := Classical.choose_spec (int_ex _)
theorem z_lifeR (r : Row) (c st : Int) (sh : Nat) : lifeR r c st sh = lifeL (decF r.cells) c st sh := Classical.choose_spec (int_ex _)
theorem z_toldR (r : Row) : toldR r = toldL (decF r.cells) := Classical.choose_spec (int_ex _)
theorem z_limR (n : Int) : limR n = lim n := Classical.choose_spec (int_ex _)
theorem z_rdJ (s : ByteArray) : rdJ s = rdI s := Classical.choose_spec (int_ex _)
theorem z_rdC (s : ByteArray) : rdC s = rdB s := Classical.choose_spec (bool_ex _)
theorem dF0 (l : List Fl) : decF (gRo enF l).cells = l := decF_gC l
theorem plain_con (n : Int) : Con Try.prog 26 [.int .i64 n] [] (.bool (plB n)) [] := by
  refine con_vc (E := E0) mixed (calls_envN _) (lok_envN _) (M := noM) lm_none (Pl_vc n _) ?_
  unfold plB
  repeat' refine br_if (fun h => ?_) (fun h => ?_)
  all_goals simp_all
theorem cm_con (n : Int) : Con Try.prog 28 [.int .i64 n] [] (.int .i64 (lim n)) [] := by
  refine con_vc (E := E0) mixed (calls_envN _) (lok_envN _) (M := noM) lm_none (Cm_vc n _) ?_
  simp only [ofNat_eq, toNat_cast, Nat.zero_add, Nat.add_zero, Nat.mul_one, List.drop_zero, bCells_len, bCells_drop, bCells_take, bCells_app, bCells_one, bCells_plain, List.length_replicate, List.length_append, List.length_take, List.length_drop, List.take_length, and_true, true_and, and_self, decide_true, List.length_nil, List.length_cons, Nat.sub_zero, dB_mk, dB_ro, List.take_zero]
  unfold lim
  split <;> split at * <;> omega
theorem mx1 (a b : Int) : (if a > b then a else b) = max a b := by split <;> omega
theorem lim_in (n : Int) : 0 ≤ lim n ∧ lim n ≤ 2147483647 := by unfold lim; omega
theorem dt_in (l : List Fl) (nm : List UInt8) : 0 ≤ dtJ (dtO l nm) ∧ dtJ (dtO l nm) ≤ 2147483647 := by
  unfold dtO
  split
  · cases h : rdL (allL l nm) with
    | none => simp [dtJ]
    | some k =>
      have := (sh_rd _ _ h).1
      simp only [dtJ]; omega
  · simp [dtJ]
theorem or_in (l : List Fl) (c : Int) : 0 ≤ orL l c ∧ orL l c ≤ 2147483647 := by
  unfold orL
  split
  · exact dt_in _ _
  · exact lim_in _
theorem secL_le (l : List UInt8) : -1 ≤ secL l ∧ secL l ≤ 2147483647 := by
  unfold secL
  split
  · omega
  · cases h : secF l 0 with
    | none => simp [secO]
    | some m =>
      have := secF_le l 0 m (by omega) h
      simp only [secO]; omega
theorem b_date : (⟨#[100, 97, 116, 101]⟩ : ByteArray) = bs sDate := rfl
theorem b_age : (⟨#[97, 103, 101]⟩ : ByteArray) = bs sAgeN := rfl
theorem b_exp : (⟨#[101, 120, 112, 105, 114, 101, 115]⟩ : ByteArray) = bs sExp := rfl
theorem b_last : (⟨#[108, 97, 115, 116, 45, 109, 111, 100, 105, 102, 105, 101, 100]⟩ : ByteArray) = bs sLast := rfl
theorem eClm_ok : EntOk Try.prog eClm := entC_ok (by
  intro a rows p v news h hp
  split at h <;> simp only [Option.some.injEq, Prod.mk.injEq, reduceCtorEq] at h
  obtain ⟨rfl, rfl, rfl⟩ := h
  rw [z_limR]
  exact cm_con _)
theorem eRd_ok : EntOk Try.prog eRd := entC_ok (by
  intro a rows p v news h hp
  split at h <;> simp only [Option.some.injEq, Prod.mk.injEq, reduceCtorEq] at h
  obtain ⟨rfl, rfl, rfl⟩ := h
  rw [z_rdJ, z_rdC]
  exact Rd_con (L _) hp)
theorem eCo_ok : EntOk Try.prog eCo := entC_ok (by
  intro a rows p v news h hp
  split at h <;> simp only [Option.some.injEq, Prod.mk.injEq, reduceCtorEq] at h
  obtain ⟨rfl, rfl, rfl⟩ := h
  obtain ⟨⟨l, rfl, rfl⟩, h1, h2⟩ := hp
  simp only [ctR, BgR, dF0, List.append_nil] at h2 ⊢
  exact Co_con l h1 (h2 _))
theorem eSe_ok : EntOk Try.prog eSe := entC_ok (by
  intro a rows p v news h hp
  split at h <;> simp only [Option.some.injEq, Prod.mk.injEq, reduceCtorEq] at h
  obtain ⟨rfl, rfl, rfl⟩ := h
  exact Se_con (L _) hp)
theorem ePl_ok : EntOk Try.prog ePl := entC_ok (by
  intro a rows p v news h hp
  split at h <;> simp only [Option.some.injEq, Prod.mk.injEq, reduceCtorEq] at h
  obtain ⟨rfl, rfl, rfl⟩ := h
  exact plain_con _)
theorem eSh_ok : EntOk Try.prog eSh := entC_ok (by
  intro a rows p v news h hp
  split at h <;> simp only [Option.some.injEq, Prod.mk.injEq, reduceCtorEq] at h
  obtain ⟨rfl, rfl, rfl⟩ := h
  exact Go.Proofs.Ytideeogedleabaa.fl.share_con _ _)
theorem tFa_ok : ∀ x ∈ tFa, EntOk Try.prog x := all_cons eAl_ok (all_cons eRd_ok (all_nil))
theorem dt_con (l : List Fl) (s : List UInt8) (hl : l.length ≤ maxLen) (hb : BgL l) : Con Try.prog 25 [.slice (some ⟨0, 0, none⟩) l.length 2, .string (bs s)] [gRo enF l] (.tuple #[.int .i64 (dtJ (dtO l s)), .bool (dtO l s).isSome]) [gRo enF l] := by
  refine con_vc (E := EtFa) mixed (calls_envT tFa_ok) (lok_envT _ _) (M := noM) lm_none (Dt_vc l s _ _) ?_
  have hm : maxLen = 9223372036854775807 := by unfold maxLen; rfl
  simp only [ofNat_eq, toNat_cast, Nat.zero_add, Nat.add_zero, Nat.mul_one, List.drop_zero, bCells_len, bCells_drop, bCells_take, bCells_app, bCells_one, bCells_plain, List.length_replicate, List.length_append, List.length_take, List.length_drop, List.take_length, and_true, true_and, and_self, decide_true, List.length_nil, List.length_cons, Nat.sub_zero, dB_mk, dB_ro, List.take_zero, fPl, fLen, fTake, n_alV, n_alN, n_alB, z_rdJ, z_rdC]
  have h1 := hb s
  refine ⟨⟨Nat.le_refl _, isF_mk _ _ rfl, by omega, by omega⟩, ?_⟩
  by_cases h : allN s l = 1
  · refine br_nb (by simp [h]) ⟨by rw [L_bs]; omega, ?_⟩
    unfold dtO rdI rdB
    rw [if_pos h, L_bs]
    cases rdL (allL l s) <;> exact ⟨rfl, rfl⟩
  · refine br_b (by simp; omega) ?_
    unfold dtO
    rw [if_neg h]
    exact ⟨rfl, rfl⟩
theorem eDt_ok : EntOk Try.prog eDt := entC_ok (by
  intro a rows p v news h hp
  split at h <;> simp only [Option.some.injEq, Prod.mk.injEq, reduceCtorEq] at h
  obtain ⟨rfl, rfl, rfl⟩ := h
  obtain ⟨⟨l, rfl, rfl⟩, h1, h2⟩ := hp
  simp only [z_dtI, z_dtB, BgR, dF0, List.append_nil] at h2 ⊢
  exact dt_con l (L _) h1 h2)
theorem tFb_ok : ∀ x ∈ tFb, EntOk Try.prog x := all_cons eAl_ok (all_cons eDt_ok (all_cons eCo_ok (all_cons eSe_ok (all_cons ePl_ok (all_cons eSh_ok (all_cons eClm_ok (all_nil)))))))
theorem or_con (x : En12) (d l : List Fl) (hd : d.length ≤ maxLen) (hl : l.length ≤ maxLen) (hb : BgL l) : Con Try.prog 23 [.agg ⟨enT x 0 d.length 1 l.length⟩] [gRo enF d, gRo enF l] (.int .i64 (orL l x.came)) [gRo enF d, gRo enF l] := by
  refine con_vc (E := EtFb) mixed (calls_envT tFb_ok) (lok_envT _ _) (M := noM) lm_none (Or_vc x d l _) ?_
  have hm : maxLen = 9223372036854775807 := by unfold maxLen; rfl
  simp only [ofNat_eq, toNat_cast, Nat.zero_add, Nat.add_zero, Nat.mul_one, List.drop_zero, bCells_len, bCells_drop, bCells_take, bCells_app, bCells_one, bCells_plain, List.length_replicate, List.length_append, List.length_take, List.length_drop, List.take_length, and_true, true_and, and_self, decide_true, List.length_nil, List.length_cons, Nat.sub_zero, dB_mk, dB_ro, List.take_zero, fPl, fLen, fTake, z_dtI, z_dtB, decF_gC]
  have bg : ∀ b o, BgR ⟨gC enF l, b, o⟩ := fun b o => by unfold BgR; simp only; rw [decF_gC]; exact hb
  simp only [b_date, L_bs, z_limR]
  refine ⟨⟨Nat.le_refl _, isF_mk _ _ rfl, by omega, bg _ _⟩, br_intro (fun h => ?_) (fun h => ?_)⟩
  · unfold orL; rw [if_pos h]
  · unfold orL; rw [if_neg (by simp [h])]
theorem to_con (x : En12) (d l : List Fl) (hd : d.length ≤ maxLen) (hl : l.length ≤ maxLen) (hb : BgL l) : Con Try.prog 29 [.agg ⟨enT x 0 d.length 1 l.length⟩] [gRo enF d, gRo enF l] (.int .i64 (toldL l)) [gRo enF d, gRo enF l] := by
  refine con_vc (E := EtFb) mixed (calls_envT tFb_ok) (lok_envT _ _) (M := noM) lm_none (To_vc x d l _) ?_
  have hm : maxLen = 9223372036854775807 := by unfold maxLen; rfl
  simp only [ofNat_eq, toNat_cast, Nat.zero_add, Nat.add_zero, Nat.mul_one, List.drop_zero, bCells_len, bCells_drop, bCells_take, bCells_app, bCells_one, bCells_plain, List.length_replicate, List.length_append, List.length_take, List.length_drop, List.take_length, and_true, true_and, and_self, decide_true, List.length_nil, List.length_cons, Nat.sub_zero, dB_mk, dB_ro, List.take_zero, fPl, fLen, fTake, n_alV, n_alN, n_alB]
  simp only [b_age, n_alV, n_alN, n_alB, L_bs, secS]
  have h1 := hb sAgeN
  have h2 := secL_le (allL l sAgeN)
  refine ⟨⟨Nat.le_refl _, isF_mk _ _ rfl, by omega, by omega⟩, ?_⟩
  unfold toldL
  by_cases h : allN sAgeN l = 1
  · refine br_nb (by simp [h]) ⟨by omega, ?_⟩
    rw [if_pos h]; split <;> omega
  · refine br_b (by simp; omega) ?_
    rw [if_neg h]
theorem eOr_ok : EntOk Try.prog eOr := entC_ok (by
  intro a rows p v news h hp
  split at h <;> simp only [Option.some.injEq, Prod.mk.injEq, reduceCtorEq] at h
  obtain ⟨rfl, rfl, rfl⟩ := h
  obtain ⟨⟨d, rfl, rfl⟩, ⟨l, rfl, rfl⟩, h1, h2, h3⟩ := hp
  simp only [z_orR, BgR, dF0, List.append_nil] at h3 ⊢
  exact or_con ⟨_, _, _, _, _, _, _, _, _, _⟩ d l h1 h2 h3)
theorem eTo_ok : EntOk Try.prog eTo := entC_ok (by
  intro a rows p v news h hp
  split at h <;> simp only [Option.some.injEq, Prod.mk.injEq, reduceCtorEq] at h
  obtain ⟨rfl, rfl, rfl⟩ := h
  obtain ⟨⟨d, rfl, rfl⟩, ⟨l, rfl, rfl⟩, h1, h2, h3⟩ := hp
  simp only [z_toldR, BgR, dF0, List.append_nil] at h3 ⊢
  exact to_con ⟨_, _, _, _, _, _, _, _, _, _⟩ d l h1 h2 h3)
theorem tFc_ok : ∀ x ∈ tFc, EntOk Try.prog x := all_cons eAl_ok (all_cons eDt_ok (all_cons eCo_ok (all_cons eSe_ok (all_cons ePl_ok (all_cons eSh_ok (all_cons eClm_ok (all_cons eOr_ok (all_cons eTo_ok (all_nil)))))))))
theorem li_con (x : En12) (d l : List Fl) (sh : Nat) (hd : d.length ≤ maxLen) (hl : l.length ≤ maxLen) (hb : BgL l) : Con Try.prog 9 [.agg ⟨enT x 0 d.length 1 l.length⟩, .float .f64 sh] [gRo enF d, gRo enF l] (.int .i64 (lifeL l x.came x.st sh)) [gRo enF d, gRo enF l] := by
  refine con_vc (E := EtFc) mixed (calls_envT tFc_ok) (lok_envT _ _) (M := noM) lm_none (Li_vc x d l sh _) ?_
  have hm : maxLen = 9223372036854775807 := by unfold maxLen; rfl
  simp only [ofNat_eq, toNat_cast, Nat.zero_add, Nat.add_zero, Nat.mul_one, List.drop_zero, bCells_len, bCells_drop, bCells_take, bCells_app, bCells_one, bCells_plain, List.length_replicate, List.length_append, List.length_take, List.length_drop, List.take_length, and_true, true_and, and_self, decide_true, List.length_nil, List.length_cons, Nat.sub_zero, dB_mk, dB_ro, List.take_zero, fPl, fLen, fTake, n_alV, n_alN, n_alB, z_dtI, z_dtB, z_orR, z_toldR, decF_gC, ctR]
  have bg : ∀ b o, BgR ⟨gC enF l, b, o⟩ := fun b o => by unfold BgR; simp only; rw [decF_gC]; exact hb
  simp only [mx1]
  simp only [b_exp, b_last, n_alN, n_alB, L_bs, bg, and_true, true_and, Nat.le_refl]
  have h0 := hb sExp
  have o1 := or_in l x.came
  have d1 := dt_in l sExp
  have d2 := dt_in l sLast
  have i1 : IsF ⟨gC enF l, true, .cells true⟩ l.length := isF_mk _ _ rfl
  have i2 : IsF ⟨gC enF d, true, .cells true⟩ d.length := isF_mk _ _ rfl
  have w1 : IntKind.i64.wrap (dtJ (dtO l sExp) - orL l x.came) = dtJ (dtO l sExp) - orL l x.came := wr64_id (by unfold I64; omega)
  have w2 : IntKind.i64.wrap (orL l x.came - dtJ (dtO l sLast)) = orL l x.came - dtJ (dtO l sLast) := wr64_id (by unfold I64; omega)
  simp only [w1, w2]
  unfold lifeL
  refine ⟨⟨i1, by omega⟩, br_if (fun h => ?_) (fun h => br_if (fun h2 => ?_) (fun h2 => ⟨⟨i2, i1, by omega, by omega⟩, ⟨i1, by omega, by omega⟩, br_if (fun h3 => ⟨⟨i1, by omega⟩, br_intro (fun h4 => ?_) (fun h4 => ?_)⟩) (fun h3 => ⟨⟨i1, by omega⟩, br_intro (fun h4 => ?_) (fun h4 => br_if (fun h5 => ?_) (fun h5 => br_intro (fun h6 => ?_) (fun h6 => ?_)))⟩)⟩))⟩
  · rw [if_pos (by omega)]
  · rw [if_neg (by omega), if_pos (by omega)]
  · rw [if_neg (by omega), if_neg (by omega), if_pos (by omega), if_neg (by simpa using h4)]
  · rw [if_neg (by omega), if_neg (by omega), if_pos (by omega), if_pos (by simpa using h4)]; omega
  · rw [if_neg (by omega), if_neg (by omega), if_neg (by omega), if_neg (fun c => by simp [c.1] at h4)]
  · rw [if_neg (by omega), if_neg (by omega), if_neg (by omega), if_neg (fun c => by omega)]
  · rw [if_neg (by omega), if_neg (by omega), if_neg (by omega), if_neg (fun c => by simp [c.2.2] at h6)]
  · rw [if_neg (by omega), if_neg (by omega), if_neg (by omega), if_pos ⟨by simpa using h4, by omega, by simpa using h6⟩, Go.Proofs.Ytideeogedleabaa.fl.share_eq]
end Go.Proofs.Ytideeogedleabaa.tk
