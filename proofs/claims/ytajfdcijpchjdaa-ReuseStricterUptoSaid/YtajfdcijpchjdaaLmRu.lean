/- frB3, frR3, ruB, ruR, as one. -/
import Derived.Test.YtajfdcijpchjdaaSz9
import Derived.Test.YtajfdcijpchjdaaRows
import Derived.Test.YtajfdcijpchjdaaLtkEnts
import Derived.Test.YtajfdcijpchjdaaLctOf
import Derived.Test.YtajfdcijpchjdaaLdayrs3
import Derived.Test.YtajfdcijpchjdaaLwgS
import Derived.Test.YtajfdcijpchjdaaLrtCtl
import Derived.Test.YtajfdcijpchjdaaLrtDay3
import Derived.Test.YtajfdcijpchjdaaLlgtK
import Derived.Test.YtajfdcijpchjdaaLwit
set_option maxRecDepth 20000
set_option linter.unusedSimpArgs false
set_option linter.unusedVariables false
namespace Go.Proofs.Ytajfdcijpchjdaa.tk
open Go Go.Ev Go.Sy Go.RowKit Go.Proofs.Ytajfdcijpchjdaa.gl
def rT (l : List Fl) : Row := Row.mk (List.take (List.length l * 2) (List.drop 0 (gC enF l))) true (Ob.cells true)
def sExp : List UInt8 := [101, 120, 112, 105, 114, 101, 115]
def plB (n : Int) : Bool := [200, 203, 204, 300, 301, 308, 404, 405, 410, 414, 501].contains n
def sDate : List UInt8 := [100, 97, 116, 101]
def sLast : List UInt8 := [108, 97, 115, 116, 45, 109, 111, 100, 105, 102, 105, 101, 100]
def sAgeN : List UInt8 := [97, 103, 101]
def lim (n : Int) : Int := min (max n 0) 2147483647
def dtO (l : List Fl) (nm : List UInt8) : Option Nat := if allN nm l = 1 then rdL (allL l nm) else none
def dtJ : Option Nat → Int
  | some k => (k : Int)
  | none => 0
def orL (l : List Fl) (came : Int) : Int := if (dtO l sDate).isSome then dtJ (dtO l sDate) else lim came
def lifeL (l : List Fl) (came st : Int) (sh : Nat) : Int :=
  if 0 ≤ (ctlL l).sh then (ctlL l).sh else if 0 ≤ (ctlL l).ma then (ctlL l).ma else
  if 0 < allN sExp l then (if (dtO l sExp).isSome then max (dtJ (dtO l sExp) - orL l came) 0 else 0)
  else if (dtO l sLast).isSome ∧ dtJ (dtO l sLast) ≤ orL l came ∧ plB st = true then Go.Proofs.Ytajfdcijpchjdaa.fl.shr (Go.Proofs.Ytajfdcijpchjdaa.fl.lim (orL l came - dtJ (dtO l sLast))) (Go.Proofs.Ytajfdcijpchjdaa.fl.cl sh) else 0
def toldL (l : List Fl) : Int := if allN sAgeN l = 1 then max (secL (allL l sAgeN)) 0 else 0
def ageL (l : List Fl) (asked came now : Int) : Int :=
  min (max (max 0 (max (lim asked) (lim came) - orL l came)) (toldL l + max (lim asked) (lim came) - lim asked) + max (max (lim asked) (lim came)) (lim now) - max (lim asked) (lim came)) 2147483647
theorem int_ex (n : Int) : ∃ v : Int, v = n := ⟨n, rfl⟩
theorem bool_ex (n : Bool) : ∃ v : Bool, v = n := ⟨n, rfl⟩
noncomputable def dtI (r : Row) (s : ByteArray) : Int := Classical.choose (int_ex (dtJ (dtO (decF r.cells) (L s))))
noncomputable def dtB (r : Row) (s : ByteArray) : Bool := Classical.choose (bool_ex (dtO (decF r.cells) (L s)).isSome)
noncomputable def orR (r : Row) (came : Int) : Int := Classical.choose (int_ex (orL (decF r.cells) came))
noncomputable def lifeR (r : Row) (came st : Int) (sh : Nat) : Int := Classical.choose (int_ex (lifeL (decF r.cells) came st sh))
noncomputable def toldR (r : Row) : Int := Classical.choose (int_ex (toldL (decF r.cells)))
noncomputable def ageR (r : Row) (asked came now : Int) : Int := Classical.choose (int_ex (ageL (decF r.cells) asked came now))
noncomputable def limR (n : Int) : Int := Classical.choose (int_ex (lim n))
noncomputable def rdJ (s : ByteArray) : Int := Classical.choose (int_ex (rdI s))
noncomputable def rdC (s : ByteArray) : Bool := Classical.choose (bool_ex (rdB s))
def BgL (l : List Fl) : Prop := ∀ nm, (allL l nm).length ≤ 16777000
def BgR (r : Row) : Prop := BgL (decF r.cells)
noncomputable def eRd : EntM := entC 59 fun a r => match a, r with
  | [.string s], [] => some ((L s).length ≤ maxLen, .tuple #[.int .i64 (rdJ s), .bool (rdC s)], [])
  | _, _ => none
noncomputable def eCo : EntM := entC 21 fun a r => match a, r with
  | [.slice (some ⟨0, 0, none⟩) n 2], [r0] => some (IsF r0 n ∧ n ≤ maxLen ∧ BgR r0, .agg ⟨enC (ctR r0)⟩, [])
  | _, _ => none
noncomputable def eClm : EntM := entC 38 fun a r => match a, r with
  | [.int .i64 n], [] => some (True, .int .i64 (limR n), [])
  | _, _ => none
noncomputable def eSe : EntM := entC 54 fun a r => match a, r with
  | [.string s], [] => some ((L s).length ≤ maxLen, .int .i64 (secS s), [])
  | _, _ => none
noncomputable def ePl : EntM := entC 43 fun a r => match a, r with
  | [.int .i64 n], [] => some (True, .bool (plB n), [])
  | _, _ => none
noncomputable def eSh : EntM := entC 44 fun a r => match a, r with
  | [.int .i64 n, .float .f64 b], [] => some (True, .int .i64 (Go.Proofs.Ytajfdcijpchjdaa.fl.share n b), [])
  | _, _ => none
noncomputable def eDt : EntM := entC 42 fun a r => match a, r with
  | [.slice (some ⟨0, 0, none⟩) n 2, .string s], [r0] => some (IsF r0 n ∧ n ≤ maxLen ∧ BgR r0, .tuple #[.int .i64 (dtI r0 s), .bool (dtB r0 s)], [])
  | _, _ => none
noncomputable def eOr : EntM := entC 39 fun a r => match a, r with
  | [.agg ⟨[.string m, .string s, .string a, .string p, .slice (some ⟨0, 0, none⟩) n0 2, .int .i64 k, .int .i64 st, .slice (some ⟨1, 0, none⟩) n 2, .int .i64 k2, .string body, .int .i64 asked, .int .i64 came]⟩], [r0, r] => some (IsF r0 n0 ∧ IsF r n ∧ n0 ≤ maxLen ∧ n ≤ maxLen ∧ BgR r, .int .i64 (orR r came), [])
  | _, _ => none
noncomputable def eTo : EntM := entC 40 fun a r => match a, r with
  | [.agg ⟨[.string m, .string s, .string a, .string p, .slice (some ⟨0, 0, none⟩) n0 2, .int .i64 k, .int .i64 st, .slice (some ⟨1, 0, none⟩) n 2, .int .i64 k2, .string body, .int .i64 asked, .int .i64 came]⟩], [r0, r] => some (IsF r0 n0 ∧ IsF r n ∧ n0 ≤ maxLen ∧ n ≤ maxLen ∧ BgR r, .int .i64 (toldR r), [])
  | _, _ => none
noncomputable def eLi : EntM := entC 26 fun a r => match a, r with
  | [.agg ⟨[.string m, .string s, .string a, .string p, .slice (some ⟨0, 0, none⟩) n0 2, .int .i64 k, .int .i64 st, .slice (some ⟨1, 0, none⟩) n 2, .int .i64 k2, .string body, .int .i64 asked, .int .i64 came]⟩, .float .f64 sh], [r0, r] => some (IsF r0 n0 ∧ IsF r n ∧ n0 ≤ maxLen ∧ n ≤ maxLen ∧ BgR r, .int .i64 (lifeR r came st sh), [])
  | _, _ => none
noncomputable def eAg : EntM := entC 25 fun a r => match a, r with
  | [.agg ⟨[.string m, .string s, .string a, .string p, .slice (some ⟨0, 0, none⟩) n0 2, .int .i64 k, .int .i64 st, .slice (some ⟨1, 0, none⟩) n 2, .int .i64 k2, .string body, .int .i64 asked, .int .i64 came]⟩, .int .i64 now], [r0, r] => some (IsF r0 n0 ∧ IsF r n ∧ n0 ≤ maxLen ∧ n ≤ maxLen ∧ BgR r, .int .i64 (ageR r asked came now), [])
  | _, _ => none
noncomputable def tFa : List EntM := [eAl, eRd]
noncomputable abbrev EtFa : Env := envT Try.prog tFa
noncomputable def tFb : List EntM := [eAl, eDt, eCo, eSe, ePl, eSh, eClm]
noncomputable abbrev EtFb : Env := envT Try.prog tFb
noncomputable def tFc : List EntM := [eAl, eDt, eCo, eSe, ePl, eSh, eClm, eOr, eTo]
noncomputable abbrev EtFc : Env := envT Try.prog tFc
structure En12 where
  m : ByteArray
  s : ByteArray
  a : ByteArray
  p : ByteArray
  k : Int
  st : Int
  k2 : Int
  body : ByteArray
  asked : Int
  came : Int
def enT (x : En12) (r0 n0 r1 n1 : Nat) : List Value := [.string x.m, .string x.s, .string x.a, .string x.p, .slice (some ⟨r0, 0, none⟩) n0 2, .int .i64 x.k, .int .i64 x.st, .slice (some ⟨r1, 0, none⟩) n1 2, .int .i64 x.k2, .string x.body, .int .i64 x.asked, .int .i64 x.came]
noncomputable def eCoR : EntM := entC 13 fun a r => match a, r with
  | [.slice (some ⟨0, 0, none⟩) n 2], [r0] => some (IsF r0 n ∧ n ≤ maxLen ∧ BgR r0, .agg ⟨enC (ctR r0)⟩, [])
  | _, _ => none
def sPrag : List UInt8 := [112, 114, 97, 103, 109, 97]
def noC (p : Pr) : Bool := decide (p.n = sNoCache)
def prgL (l : List Fl) : Bool := if 0 < allN sCC l then false else (pairsL l sPrag).any noC
def young (d : Ct) (age : Int) : Bool := decide (d.ma < 0) || decide (age ≤ d.ma)
def alive (c d : Ct) (age life : Int) : Bool := if age < life then decide (d.fr ≤ life - age) else decide (age - life ≤ d.st) && (!c.ms && (decide (c.sh < 0) && decide (d.fr < 0)))
def useI (c d : Ct) (pg : Bool) (age life : Int) : Int := if !c.nc && (!d.nc && (!pg && (young d age && alive c d age life))) then 1 else if d.on then 4 else 2
noncomputable def prgR (r : Row) : Bool := Classical.choose (bool_ex (prgL (decF r.cells)))
noncomputable def ePa : EntM := entC 34 fun a r => match a, r with
  | [.slice (some ⟨0, 0, none⟩) n 2, .string s], [r0] => some (IsF r0 n ∧ n ≤ maxLen ∧ alB r0 s ≤ 16777000, .slice (some ⟨1, 0, none⟩) (prN r0 s) 3, [⟨prC r0 s, false, .cells true⟩])
  | _, _ => none
noncomputable def ePg : EntM := entC 27 fun a r => match a, r with
  | [.slice (some ⟨0, 0, none⟩) n 2], [r0] => some (IsF r0 n ∧ n ≤ maxLen ∧ BgR r0, .bool (prgR r0), [])
  | _, _ => none
noncomputable def tPg : List EntM := [eAl, ePa]
noncomputable abbrev EtPg : Env := envT Try.prog tPg
noncomputable def tUs : List EntM := [eCo, ePg, eAg, eLi]
noncomputable abbrev EtUs : Env := envT Try.prog tUs
structure GPg where
  l : List Fl
  ps : List Pr
def pPg : List Nat := [0, 1, 0, 1, 1]
def slPg (g : GPg) (i : Nat) : List (Nat × Value) := [(15, .slice (some ⟨1, 0, none⟩) g.ps.length 3), (16, .int .i64 (g.ps.length : Nat)), (17, .int .i64 (i : Nat))]
def rlPg (g : GPg) (_ : Nat) : List (Nat × Row) := [(0, gRo enF g.l), (1, gOwn enP g.ps)]
def wsPg (g : GPg) : List (Gate Unit) := [⟨.exit 0, fun _ => g.ps.any noC = false, fun _ => [], fun _ => [(0, gRo enF g.l)], 1⟩, ⟨.ret, fun _ => g.ps.any noC = true, fun _ => [(2, .bool true)], fun _ => [(0, gRo enF g.l)], 1⟩]
def specPg : Sy.Spec := specOf 1 2 25 (fun g : GPg => g.ps.length ≤ maxLen) (fun g => slPg g 0) (fun g => rlPg g 0) wsPg
def mPg := mOf [(27, pPg, specPg)]
structure Rq6 where
  m : ByteArray
  s : ByteArray
  a : ByteArray
  p : ByteArray
  k : Int
def rqT (x : Rq6) (r n : Nat) : List Value := [.string x.m, .string x.s, .string x.a, .string x.p, .slice (some ⟨r, 0, none⟩) n 2, .int .i64 x.k]
structure GRr where
  x : En12
  y : Rq6
  d : List Fl
  l : List Fl
  q : List Fl
  ps : List Pr
  now : Int
  sh : Nat
  c : Ct
  e : Ct
theorem Dt_vc (l : List Fl) (s : List UInt8) (v : Int) (b : Bool) : mcall EtFa noM 60 42 [.slice (some ⟨0, 0, none⟩) l.length 2, .string (bs s)] ⟨mkR (nums 0 [gRo enF l]), 1⟩ (retIs 1 (.tuple #[.int .i64 v, .bool b]) [gRo enF l]) =
  let z1 := ((Eq (α := List Value) (gC enF l) (gC enF l)) /\ ((Plain (gC enF l)) /\ True)); (((((0 + List.length l * 2 <= List.length (gC enF l) /\ Plain (List.take
  (List.length l * 2) (List.drop 0 (gC enF l)))) /\ (True /\ True)) /\ ((True /\ True) /\ (True /\ (IsF (rT l) (List.length l) /\ (List.length l <= 9223372036854775807 /\
  alB (rT l) (bs s) <= 16777216)))))) /\ (br (alN (rT l) (bs s) != (1 : Int)) ((v = (0 : Int)) /\ ((b = false) /\ z1)) ((((True /\ True) /\ (True /\ (True /\ List.length (L
  (alV (rT l) (bs s))) <= 9223372036854775807)))) /\ ((v = rdJ (alV (rT l) (bs s))) /\ ((b = rdC (alV (rT l) (bs s))) /\ z1))))) := by kernel_rfl
theorem Or_vc (x : En12) (d l : List Fl) (v : Int) : mcall EtFb noM 60 39 [.agg ⟨enT x 0 d.length 1 l.length⟩] ⟨mkR (nums 0 [gRo enF d, gRo enF l]), 2⟩ (retIs 2 (.int .i64 v) [gRo enF d, gRo enF l]) =
  let z1 := ((Eq (α := List Value) (gC enF d) (gC enF d)) /\ ((Plain (gC enF d)) /\ ((Eq (α := List Value) (gC enF l) (gC enF l)) /\ ((Plain (gC enF l)) /\ True)))); (((((0
  + List.length l * 2 <= List.length (gC enF l) /\ Plain (List.take (List.length l * 2) (List.drop 0 (gC enF l)))) /\ (True /\ True)) /\ ((True /\ True) /\ (True /\ (IsF (rT
  l) (List.length l) /\ (List.length l <= 9223372036854775807 /\ BgR (rT l))))))) /\ (br (dtB (rT l) (ByteArray.mk #[100, 97, 116, 101])) ((v = dtI (rT l) (ByteArray.mk
  #[100, 97, 116, 101])) /\ z1) ((((True /\ True) /\ (True /\ (True /\ True)))) /\ ((v = limR x.10) /\ z1)))) := by kernel_rfl
theorem To_vc (x : En12) (d l : List Fl) (v : Int) : mcall EtFb noM 60 40 [.agg ⟨enT x 0 d.length 1 l.length⟩] ⟨mkR (nums 0 [gRo enF d, gRo enF l]), 2⟩ (retIs 2 (.int .i64 v) [gRo enF d, gRo enF l]) =
  let z1 := ((Eq (α := List Value) (gC enF d) (gC enF d)) /\ ((Plain (gC enF d)) /\ ((Eq (α := List Value) (gC enF l) (gC enF l)) /\ ((Plain (gC enF l)) /\ True)))); (((((0
  + List.length l * 2 <= List.length (gC enF l) /\ Plain (List.take (List.length l * 2) (List.drop 0 (gC enF l)))) /\ (True /\ True)) /\ ((True /\ True) /\ (True /\ (IsF (rT
  l) (List.length l) /\ (List.length l <= 9223372036854775807 /\ alB (rT l) (ByteArray.mk #[97, 103, 101]) <= 16777216)))))) /\ (br (alN (rT l) (ByteArray.mk #[97, 103,
  101]) != (1 : Int)) ((v = (0 : Int)) /\ z1) ((((True /\ True) /\ (True /\ (True /\ List.length (L (alV (rT l) (ByteArray.mk #[97, 103, 101]))) <= 9223372036854775807))))
  /\ ((v = if (0 : Int) > secS (alV (rT l) (ByteArray.mk #[97, 103, 101])) then (0 : Int) else secS (alV (rT l) (ByteArray.mk #[97, 103, 101]))) /\ z1)))) := by kernel_rfl
theorem Li_vc (x : En12) (d l : List Fl) (sh : Nat) (v : Int) : mcall EtFc noM 60 26 [.agg ⟨enT x 0 d.length 1 l.length⟩, .float .f64 sh] ⟨mkR (nums 0 [gRo enF d, gRo enF l]), 2⟩ (retIs 2 (.int .i64 v) [gRo enF d, gRo enF l]) =
  let z1 := ((Eq (α := List Value) (gC enF d) (gC enF d)) /\ ((Plain (gC enF d)) /\ ((Eq (α := List Value) (gC enF l) (gC enF l)) /\ ((Plain (gC enF l)) /\ True)))); let z2
  := (0 + List.length l * 2 <= List.length (gC enF l) /\ Plain (List.take (List.length l * 2) (List.drop 0 (gC enF l)))); let z3 := ((True /\ True) /\ (True /\ (IsF (rT l)
  (List.length l) /\ (List.length l <= 9223372036854775807 /\ BgR (rT l))))); let z4 := (ByteArray.mk #[101, 120, 112, 105, 114, 101, 115]); let z5 := (ByteArray.mk #[108,
  97, 115, 116, 45, 109, 111, 100, 105, 102, 105, 101, 100]); ((((z2 /\ True) /\ z3)) /\ (br (decide ((ctR (rT l)).8 ≥ (0 : Int))) ((v = (ctR (rT l)).8) /\ z1) (br (decide
  ((ctR (rT l)).7 ≥ (0 : Int))) ((v = (ctR (rT l)).7) /\ z1) (((((True /\ (True /\ (True /\ (True /\ ((0 + List.length d * 2 <= List.length (gC enF d) /\ Plain (List.take
  (List.length d * 2) (List.drop 0 (gC enF d)))) /\ (True /\ (True /\ (z2 /\ (True /\ (True /\ (True /\ (True /\ True)))))))))))) /\ True) /\ ((True /\ (True /\ True)) /\
  (True /\ (IsF (rT d) (List.length d) /\ (IsF (rT l) (List.length l) /\ (List.length d <= 9223372036854775807 /\ (List.length l <= 9223372036854775807 /\ BgR (rT l)))))))))
  /\ ((((z2 /\ (True /\ True)) /\ ((True /\ True) /\ (True /\ (IsF (rT l) (List.length l) /\ (List.length l <= 9223372036854775807 /\ alB (rT l) z4 <= 16777216)))))) /\ (br
  (decide (alN (rT l) z4 > (0 : Int))) ((((z2 /\ (True /\ True)) /\ z3)) /\ (br (!dtB (rT l) z4) ((v = (0 : Int)) /\ z1) ((v = if (0 : Int) > IntKind.wrap IntKind.i64 (dtI
  (rT l) z4 - orR (rT l) x.10) then (0 : Int) else IntKind.wrap IntKind.i64 (dtI (rT l) z4 - orR (rT l) x.10)) /\ z1))) ((((z2 /\ (True /\ True)) /\ z3)) /\ (br (!dtB (rT l)
  z5) ((v = (0 : Int)) /\ z1) (br (decide (dtI (rT l) z5 > orR (rT l) x.10)) ((v = (0 : Int)) /\ z1) ((((True /\ True) /\ (True /\ (True /\ True)))) /\ (br (!plB x.6) ((v =
  (0 : Int)) /\ z1) ((((True /\ (True /\ True)) /\ (True /\ (True /\ True)))) /\ ((v = fl.share (IntKind.wrap IntKind.i64 (orR (rT l) x.10 - dtI (rT l) z5)) sh) /\
  z1))))))))))))) := by kernel_rfl
theorem Ag_vc (x : En12) (d l : List Fl) (now : Int) (v : Int) : mcall EtFc noM 60 25 [.agg ⟨enT x 0 d.length 1 l.length⟩, .int .i64 now] ⟨mkR (nums 0 [gRo enF d, gRo enF l]), 2⟩ (retIs 2 (.int .i64 v) [gRo enF d, gRo enF l]) =
  let z1 := (Array.mk [Value.string x.1, Value.string x.2, Value.string x.3, Value.string x.4, Value.slice (some (Addr.mk 0 0 none)) (List.length d) 2, Value.int IntKind.i64
  x.5, Value.int IntKind.i64 x.6, Value.slice (some (Addr.mk 1 0 none)) (List.length l) 2, Value.int IntKind.i64 x.7, Value.string x.8, Value.int IntKind.i64 x.9, Value.int
  IntKind.i64 x.10]); let z2 := (IntKind.wrap IntKind.i64 ((if IntKind.wrap IntKind.i64 (IntKind.wrap IntKind.i64 (toldR (rT l) + if limR x.10 > limR x.9 then limR x.10 else
  limR x.9) - limR x.9) > if IntKind.wrap IntKind.i64 ((if limR x.10 > limR x.9 then limR x.10 else limR x.9) - orR (rT l) x.10) > (0 : Int) then IntKind.wrap IntKind.i64
  ((if limR x.10 > limR x.9 then limR x.10 else limR x.9) - orR (rT l) x.10) else (0 : Int) then IntKind.wrap IntKind.i64 (IntKind.wrap IntKind.i64 (toldR (rT l) + if limR
  x.10 > limR x.9 then limR x.10 else limR x.9) - limR x.9) else if IntKind.wrap IntKind.i64 ((if limR x.10 > limR x.9 then limR x.10 else limR x.9) - orR (rT l) x.10) > (0
  : Int) then IntKind.wrap IntKind.i64 ((if limR x.10 > limR x.9 then limR x.10 else limR x.9) - orR (rT l) x.10) else (0 : Int)) + if limR now > if limR x.10 > limR x.9
  then limR x.10 else limR x.9 then limR now else if limR x.10 > limR x.9 then limR x.10 else limR x.9) - if limR x.10 > limR x.9 then limR x.10 else limR x.9); let z3 :=
  ((((True /\ (True /\ (True /\ (True /\ ((0 + List.length d * 2 <= List.length (gC enF d) /\ Plain (List.take (List.length d * 2) (List.drop 0 (gC enF d)))) /\ (True /\
  (True /\ ((0 + List.length l * 2 <= List.length (gC enF l) /\ Plain (List.take (List.length l * 2) (List.drop 0 (gC enF l)))) /\ (True /\ (True /\ (True /\ (True /\
  True)))))))))))) /\ True) /\ ((True /\ (True /\ True)) /\ (True /\ (IsF (rT d) (List.length d) /\ (IsF (rT l) (List.length l) /\ (List.length d <= 9223372036854775807 /\
  (List.length l <= 9223372036854775807 /\ BgR (rT l))))))))); ((((True /\ True) /\ (True /\ (True /\ True)))) /\ ((((True /\ True) /\ (True /\ (True /\ True)))) /\ ((((True
  /\ True) /\ (True /\ (True /\ True)))) /\ (z3 /\ (z3 /\ ((Value.agg z1 = Value.agg z1) /\ ((Value.agg z1 = Value.agg z1) /\ ((Value.agg z1 = Value.agg z1) /\ ((v = if
  (2147483647 : Int) < IntKind.wrap IntKind.i64 z2 then (2147483647 : Int) else IntKind.wrap IntKind.i64 z2) /\ ((Eq (α := List Value) (gC enF d) (gC enF d)) /\ ((Plain (gC
  enF d)) /\ ((Eq (α := List Value) (gC enF l) (gC enF l)) /\ ((Plain (gC enF l)) /\ True))))))))))))) := by kernel_rfl
theorem Cm_vc (n v : Int) : mcall E0 noM 60 38 [.int .i64 n] ⟨mkR (nums 0 []), 0⟩ (retIs 0 (.int .i64 v) []) =
  ((v = if (2147483647 : Int) < if (0 : Int) > n then (0 : Int) else n then (2147483647 : Int) else if (0 : Int) > n then (0 : Int) else n) /\ True) := by kernel_rfl
theorem Pl_vc (n : Int) (v : Bool) : mcall E0 noM 60 43 [.int .i64 n] ⟨mkR (nums 0 []), 0⟩ (retIs 0 (.bool v) []) =
  (br (n == (200 : Int)) ((v = true) /\ True) (br (n == (203 : Int)) ((v = true) /\ True) (br (n == (204 : Int)) ((v = true) /\ True) (br (n == (300 : Int)) ((v = true) /\
  True) (br (n == (301 : Int)) ((v = true) /\ True) (br (n == (308 : Int)) ((v = true) /\ True) (br (n == (404 : Int)) ((v = true) /\ True) (br (n == (405 : Int)) ((v =
  true) /\ True) (br (n == (410 : Int)) ((v = true) /\ True) (br (n == (414 : Int)) ((v = true) /\ True) (br (n == (501 : Int)) ((v = true) /\ True) ((v = false) /\
  True)))))))))))) := by kernel_rfl
theorem z_dtI (r : Row) (s : ByteArray) : dtI r s = dtJ (dtO (decF r.cells) (L s)) := Classical.choose_spec (int_ex _)
theorem z_dtB (r : Row) (s : ByteArray) : dtB r s = (dtO (decF r.cells) (L s)).isSome := Classical.choose_spec (bool_ex _)
theorem z_orR (r : Row) (c : Int) : orR r c = orL (decF r.cells) c := Classical.choose_spec (int_ex _)
theorem z_lifeR (r : Row) (c st : Int) (sh : Nat) : lifeR r c st sh = lifeL (decF r.cells) c st sh := Classical.choose_spec (int_ex _)
theorem z_toldR (r : Row) : toldR r = toldL (decF r.cells) := Classical.choose_spec (int_ex _)
theorem z_ageR (r : Row) (a c n : Int) : ageR r a c n = ageL (decF r.cells) a c n := Classical.choose_spec (int_ex _)
theorem z_limR (n : Int) : limR n = lim n := Classical.choose_spec (int_ex _)
theorem z_rdJ (s : ByteArray) : rdJ s = rdI s := Classical.choose_spec (int_ex _)
theorem z_rdC (s : ByteArray) : rdC s = rdB s := Classical.choose_spec (bool_ex _)
theorem dF0 (l : List Fl) : decF (gRo enF l).cells = l := decF_gC l
theorem plain_con (n : Int) : Con Try.prog 43 [.int .i64 n] [] (.bool (plB n)) [] := by
  refine con_vc (E := E0) mixed (calls_envN _) (lok_envN _) (M := noM) lm_none (Pl_vc n _) ?_
  unfold plB
  repeat' refine br_if (fun h => ?_) (fun h => ?_)
  all_goals simp_all
theorem cm_con (n : Int) : Con Try.prog 38 [.int .i64 n] [] (.int .i64 (lim n)) [] := by
  refine con_vc (E := E0) mixed (calls_envN _) (lok_envN _) (M := noM) lm_none (Cm_vc n _) ?_
  simp only [ofNat_eq, toNat_cast, Nat.zero_add, Nat.add_zero, Nat.mul_one, List.drop_zero, bCells_len, bCells_drop, bCells_take, bCells_app, bCells_one, bCells_plain, List.length_replicate, List.length_append, List.length_take, List.length_drop, List.take_length, and_true, true_and, and_self, decide_true, List.length_nil, List.length_cons, Nat.sub_zero, dB_mk, dB_ro, List.take_zero, rT]
  unfold lim
  split <;> split at * <;> omega
theorem mx1 (a b : Int) : (if a > b then a else b) = max a b := by split <;> omega
theorem mn1 (a b : Int) : (if a < b then a else b) = min a b := by split <;> omega
theorem lim_in (n : Int) : 0 ≤ lim n ∧ lim n ≤ 2147483647 := by unfold lim; omega
theorem dt_in (l : List Fl) (nm : List UInt8) : 0 ≤ dtJ (dtO l nm) ∧ dtJ (dtO l nm) ≤ 2147483647 := by
  unfold dtO
  split
  · cases h : rdL (allL l nm) with
    | none => simp [dtJ]
    | some k =>
      have := (sh_rd _ _ h).1
      simp only [dtJ]; omega
  · simp [dtJ]
theorem or_in (l : List Fl) (c : Int) : 0 ≤ orL l c ∧ orL l c ≤ 2147483647 := by
  unfold orL
  split
  · exact dt_in _ _
  · exact lim_in _
theorem secL_le (l : List UInt8) : -1 ≤ secL l ∧ secL l ≤ 2147483647 := by
  unfold secL
  split
  · omega
  · cases h : secF l 0 with
    | none => simp [secO]
    | some m =>
      have := secF_le l 0 m (by omega) h
      simp only [secO]; omega
theorem told_in (l : List Fl) : 0 ≤ toldL l ∧ toldL l ≤ 2147483647 := by
  unfold toldL
  have := secL_le (allL l sAgeN)
  split <;> omega
theorem b_date : (⟨#[100, 97, 116, 101]⟩ : ByteArray) = bs sDate := rfl
theorem b_age : (⟨#[97, 103, 101]⟩ : ByteArray) = bs sAgeN := rfl
theorem b_exp : (⟨#[101, 120, 112, 105, 114, 101, 115]⟩ : ByteArray) = bs sExp := rfl
theorem b_last : (⟨#[108, 97, 115, 116, 45, 109, 111, 100, 105, 102, 105, 101, 100]⟩ : ByteArray) = bs sLast := rfl
theorem eClm_ok : EntOk Try.prog eClm := entC_ok (by
  intro a rows p v news h hp
  split at h <;> simp only [Option.some.injEq, Prod.mk.injEq, reduceCtorEq] at h
  obtain ⟨rfl, rfl, rfl⟩ := h
  rw [z_limR]
  exact cm_con _)
theorem eRd_ok : EntOk Try.prog eRd := entC_ok (by
  intro a rows p v news h hp
  split at h <;> simp only [Option.some.injEq, Prod.mk.injEq, reduceCtorEq] at h
  obtain ⟨rfl, rfl, rfl⟩ := h
  rw [z_rdJ, z_rdC]
  exact Rd_con (L _) hp)
theorem eCo_ok : EntOk Try.prog eCo := entC_ok (by
  intro a rows p v news h hp
  split at h <;> simp only [Option.some.injEq, Prod.mk.injEq, reduceCtorEq] at h
  obtain ⟨rfl, rfl, rfl⟩ := h
  obtain ⟨⟨l, rfl, rfl⟩, h1, h2⟩ := hp
  simp only [ctR, BgR, dF0, List.append_nil] at h2 ⊢
  exact Co_con l h1 (h2 _))
theorem eSe_ok : EntOk Try.prog eSe := entC_ok (by
  intro a rows p v news h hp
  split at h <;> simp only [Option.some.injEq, Prod.mk.injEq, reduceCtorEq] at h
  obtain ⟨rfl, rfl, rfl⟩ := h
  exact Se_con (L _) hp)
theorem ePl_ok : EntOk Try.prog ePl := entC_ok (by
  intro a rows p v news h hp
  split at h <;> simp only [Option.some.injEq, Prod.mk.injEq, reduceCtorEq] at h
  obtain ⟨rfl, rfl, rfl⟩ := h
  exact plain_con _)
theorem eSh_ok : EntOk Try.prog eSh := entC_ok (by
  intro a rows p v news h hp
  split at h <;> simp only [Option.some.injEq, Prod.mk.injEq, reduceCtorEq] at h
  obtain ⟨rfl, rfl, rfl⟩ := h
  exact Go.Proofs.Ytajfdcijpchjdaa.fl.share_con _ _)
theorem tFa_ok : ∀ x ∈ tFa, EntOk Try.prog x := all_cons eAl_ok (all_cons eRd_ok (all_nil))
theorem dt_con (l : List Fl) (s : List UInt8) (hl : l.length ≤ maxLen) (hb : BgL l) : Con Try.prog 42 [.slice (some ⟨0, 0, none⟩) l.length 2, .string (bs s)] [gRo enF l] (.tuple #[.int .i64 (dtJ (dtO l s)), .bool (dtO l s).isSome]) [gRo enF l] := by
  refine con_vc (E := EtFa) mixed (calls_envT tFa_ok) (lok_envT _ _) (M := noM) lm_none (Dt_vc l s _ _) ?_
  have hm : maxLen = 9223372036854775807 := by unfold maxLen; rfl
  simp only [ofNat_eq, toNat_cast, Nat.zero_add, Nat.add_zero, Nat.mul_one, List.drop_zero, bCells_len, bCells_drop, bCells_take, bCells_app, bCells_one, bCells_plain, List.length_replicate, List.length_append, List.length_take, List.length_drop, List.take_length, and_true, true_and, and_self, decide_true, List.length_nil, List.length_cons, Nat.sub_zero, dB_mk, dB_ro, List.take_zero, rT, fPl, fLen, fTake, n_alV, n_alN, n_alB, z_rdJ, z_rdC]
  have h1 := hb s
  refine ⟨⟨Nat.le_refl _, isF_mk _ _ rfl, by omega, by omega⟩, ?_⟩
  by_cases h : allN s l = 1
  · refine br_nb (by simp [h]) ⟨by rw [L_bs]; omega, ?_⟩
    unfold dtO rdI rdB
    rw [if_pos h, L_bs]
    cases rdL (allL l s) <;> exact ⟨rfl, rfl⟩
  · refine br_b (by simp; omega) ?_
    unfold dtO
    rw [if_neg h]
    exact ⟨rfl, rfl⟩
theorem eDt_ok : EntOk Try.prog eDt := entC_ok (by
  intro a rows p v news h hp
  split at h <;> simp only [Option.some.injEq, Prod.mk.injEq, reduceCtorEq] at h
  obtain ⟨rfl, rfl, rfl⟩ := h
  obtain ⟨⟨l, rfl, rfl⟩, h1, h2⟩ := hp
  simp only [z_dtI, z_dtB, BgR, dF0, List.append_nil] at h2 ⊢
  exact dt_con l (L _) h1 h2)
theorem tFb_ok : ∀ x ∈ tFb, EntOk Try.prog x := all_cons eAl_ok (all_cons eDt_ok (all_cons eCo_ok (all_cons eSe_ok (all_cons ePl_ok (all_cons eSh_ok (all_cons eClm_ok (all_nil)))))))
theorem or_con (x : En12) (d l : List Fl) (hd : d.length ≤ maxLen) (hl : l.length ≤ maxLen) (hb : BgL l) : Con Try.prog 39 [.agg ⟨enT x 0 d.length 1 l.length⟩] [gRo enF d, gRo enF l] (.int .i64 (orL l x.came)) [gRo enF d, gRo enF l] := by
  refine con_vc (E := EtFb) mixed (calls_envT tFb_ok) (lok_envT _ _) (M := noM) lm_none (Or_vc x d l _) ?_
  have hm : maxLen = 9223372036854775807 := by unfold maxLen; rfl
  simp only [ofNat_eq, toNat_cast, Nat.zero_add, Nat.add_zero, Nat.mul_one, List.drop_zero, bCells_len, bCells_drop, bCells_take, bCells_app, bCells_one, bCells_plain, List.length_replicate, List.length_append, List.length_take, List.length_drop, List.take_length, and_true, true_and, and_self, decide_true, List.length_nil, List.length_cons, Nat.sub_zero, dB_mk, dB_ro, List.take_zero, rT, fPl, fLen, fTake, z_dtI, z_dtB, decF_gC]
  have bg : ∀ b o, BgR ⟨gC enF l, b, o⟩ := fun b o => by unfold BgR; simp only; rw [decF_gC]; exact hb
  simp only [b_date, L_bs, z_limR]
  refine ⟨⟨Nat.le_refl _, isF_mk _ _ rfl, by omega, bg _ _⟩, br_intro (fun h => ?_) (fun h => ?_)⟩
  · unfold orL; rw [if_pos h]
  · unfold orL; rw [if_neg (by simp [h])]
theorem to_con (x : En12) (d l : List Fl) (hd : d.length ≤ maxLen) (hl : l.length ≤ maxLen) (hb : BgL l) : Con Try.prog 40 [.agg ⟨enT x 0 d.length 1 l.length⟩] [gRo enF d, gRo enF l] (.int .i64 (toldL l)) [gRo enF d, gRo enF l] := by
  refine con_vc (E := EtFb) mixed (calls_envT tFb_ok) (lok_envT _ _) (M := noM) lm_none (To_vc x d l _) ?_
  have hm : maxLen = 9223372036854775807 := by unfold maxLen; rfl
  simp only [ofNat_eq, toNat_cast, Nat.zero_add, Nat.add_zero, Nat.mul_one, List.drop_zero, bCells_len, bCells_drop, bCells_take, bCells_app, bCells_one, bCells_plain, List.length_replicate, List.length_append, List.length_take, List.length_drop, List.take_length, and_true, true_and, and_self, decide_true, List.length_nil, List.length_cons, Nat.sub_zero, dB_mk, dB_ro, List.take_zero, rT, fPl, fLen, fTake, n_alV, n_alN, n_alB]
  simp only [b_age, n_alV, n_alN, n_alB, L_bs, secS]
  have h1 := hb sAgeN
  have h2 := secL_le (allL l sAgeN)
  refine ⟨⟨Nat.le_refl _, isF_mk _ _ rfl, by omega, by omega⟩, ?_⟩
  unfold toldL
  by_cases h : allN sAgeN l = 1
  · refine br_nb (by simp [h]) ⟨by omega, ?_⟩
    rw [if_pos h]; split <;> omega
  · refine br_b (by simp; omega) ?_
    rw [if_neg h]
theorem eOr_ok : EntOk Try.prog eOr := entC_ok (by
  intro a rows p v news h hp
  split at h <;> simp only [Option.some.injEq, Prod.mk.injEq, reduceCtorEq] at h
  obtain ⟨rfl, rfl, rfl⟩ := h
  obtain ⟨⟨d, rfl, rfl⟩, ⟨l, rfl, rfl⟩, h1, h2, h3⟩ := hp
  simp only [z_orR, BgR, dF0, List.append_nil] at h3 ⊢
  exact or_con ⟨_, _, _, _, _, _, _, _, _, _⟩ d l h1 h2 h3)
theorem eTo_ok : EntOk Try.prog eTo := entC_ok (by
  intro a rows p v news h hp
  split at h <;> simp only [Option.some.injEq, Prod.mk.injEq, reduceCtorEq] at h
  obtain ⟨rfl, rfl, rfl⟩ := h
  obtain ⟨⟨d, rfl, rfl⟩, ⟨l, rfl, rfl⟩, h1, h2, h3⟩ := hp
  simp only [z_toldR, BgR, dF0, List.append_nil] at h3 ⊢
  exact to_con ⟨_, _, _, _, _, _, _, _, _, _⟩ d l h1 h2 h3)
theorem tFc_ok : ∀ x ∈ tFc, EntOk Try.prog x := all_cons eAl_ok (all_cons eDt_ok (all_cons eCo_ok (all_cons eSe_ok (all_cons ePl_ok (all_cons eSh_ok (all_cons eClm_ok (all_cons eOr_ok (all_cons eTo_ok (all_nil)))))))))
theorem li_con (x : En12) (d l : List Fl) (sh : Nat) (hd : d.length ≤ maxLen) (hl : l.length ≤ maxLen) (hb : BgL l) : Con Try.prog 26 [.agg ⟨enT x 0 d.length 1 l.length⟩, .float .f64 sh] [gRo enF d, gRo enF l] (.int .i64 (lifeL l x.came x.st sh)) [gRo enF d, gRo enF l] := by
  refine con_vc (E := EtFc) mixed (calls_envT tFc_ok) (lok_envT _ _) (M := noM) lm_none (Li_vc x d l sh _) ?_
  have hm : maxLen = 9223372036854775807 := by unfold maxLen; rfl
  simp only [ofNat_eq, toNat_cast, Nat.zero_add, Nat.add_zero, Nat.mul_one, List.drop_zero, bCells_len, bCells_drop, bCells_take, bCells_app, bCells_one, bCells_plain, List.length_replicate, List.length_append, List.length_take, List.length_drop, List.take_length, and_true, true_and, and_self, decide_true, List.length_nil, List.length_cons, Nat.sub_zero, dB_mk, dB_ro, List.take_zero, rT, fPl, fLen, fTake, n_alV, n_alN, n_alB, z_dtI, z_dtB, z_orR, z_toldR, decF_gC, ctR]
  have bg : ∀ b o, BgR ⟨gC enF l, b, o⟩ := fun b o => by unfold BgR; simp only; rw [decF_gC]; exact hb
  simp only [mx1]
  simp only [b_exp, b_last, n_alN, n_alB, L_bs, bg, and_true, true_and, Nat.le_refl]
  have h0 := hb sExp
  have o1 := or_in l x.came
  have d1 := dt_in l sExp
  have d2 := dt_in l sLast
  have i1 : IsF ⟨gC enF l, true, .cells true⟩ l.length := isF_mk _ _ rfl
  have i2 : IsF ⟨gC enF d, true, .cells true⟩ d.length := isF_mk _ _ rfl
  have w1 : IntKind.i64.wrap (dtJ (dtO l sExp) - orL l x.came) = dtJ (dtO l sExp) - orL l x.came := wr64_id (by unfold I64; omega)
  have w2 : IntKind.i64.wrap (orL l x.came - dtJ (dtO l sLast)) = orL l x.came - dtJ (dtO l sLast) := wr64_id (by unfold I64; omega)
  simp only [w1, w2]
  unfold lifeL
  refine ⟨⟨i1, by omega⟩, br_if (fun h => ?_) (fun h => br_if (fun h2 => ?_) (fun h2 => ⟨⟨i2, i1, by omega, by omega⟩, ⟨i1, by omega, by omega⟩, br_if (fun h3 => ⟨⟨i1, by omega⟩, br_intro (fun h4 => ?_) (fun h4 => ?_)⟩) (fun h3 => ⟨⟨i1, by omega⟩, br_intro (fun h4 => ?_) (fun h4 => br_if (fun h5 => ?_) (fun h5 => br_intro (fun h6 => ?_) (fun h6 => ?_)))⟩)⟩))⟩
  · rw [if_pos (by omega)]
  · rw [if_neg (by omega), if_pos (by omega)]
  · rw [if_neg (by omega), if_neg (by omega), if_pos (by omega), if_neg (by simpa using h4)]
  · rw [if_neg (by omega), if_neg (by omega), if_pos (by omega), if_pos (by simpa using h4)]; omega
  · rw [if_neg (by omega), if_neg (by omega), if_neg (by omega), if_neg (fun c => by simp [c.1] at h4)]
  · rw [if_neg (by omega), if_neg (by omega), if_neg (by omega), if_neg (fun c => by omega)]
  · rw [if_neg (by omega), if_neg (by omega), if_neg (by omega), if_neg (fun c => by simp [c.2.2] at h6)]
  · rw [if_neg (by omega), if_neg (by omega), if_neg (by omega), if_pos ⟨by simpa using h4, by omega, by simpa using h6⟩, Go.Proofs.Ytajfdcijpchjdaa.fl.share_eq]
theorem ag_con (x : En12) (d l : List Fl) (now : Int) (hd : d.length ≤ maxLen) (hl : l.length ≤ maxLen) (hb : BgL l) : Con Try.prog 25 [.agg ⟨enT x 0 d.length 1 l.length⟩, .int .i64 now] [gRo enF d, gRo enF l] (.int .i64 (ageL l x.asked x.came now)) [gRo enF d, gRo enF l] := by
  refine con_vc (E := EtFc) mixed (calls_envT tFc_ok) (lok_envT _ _) (M := noM) lm_none (Ag_vc x d l now _) ?_
  have hm : maxLen = 9223372036854775807 := by unfold maxLen; rfl
  simp only [ofNat_eq, toNat_cast, Nat.zero_add, Nat.add_zero, Nat.mul_one, List.drop_zero, bCells_len, bCells_drop, bCells_take, bCells_app, bCells_one, bCells_plain, List.length_replicate, List.length_append, List.length_take, List.length_drop, List.take_length, and_true, true_and, and_self, decide_true, List.length_nil, List.length_cons, Nat.sub_zero, dB_mk, dB_ro, List.take_zero, rT, fPl, fLen, fTake, n_alV, n_alN, n_alB, z_dtI, z_dtB, z_orR, z_toldR, decF_gC]
  have bg : ∀ b o, BgR ⟨gC enF l, b, o⟩ := fun b o => by unfold BgR; simp only; rw [decF_gC]; exact hb
  simp only [mx1, mn1, z_limR, bg, and_true, true_and, Nat.le_refl]
  have o1 := or_in l x.came
  have o2 := told_in l
  have i1 : IsF ⟨gC enF l, true, .cells true⟩ l.length := isF_mk _ _ rfl
  have i2 : IsF ⟨gC enF d, true, .cells true⟩ d.length := isF_mk _ _ rfl
  refine ⟨⟨i2, i1, by omega, by omega⟩, ⟨i2, i1, by omega, by omega⟩, ?_⟩
  unfold ageL
  have l1 := lim_in x.asked
  have l2 := lim_in x.came
  have l3 := lim_in now
  generalize lim x.asked = A at *
  generalize lim x.came = C at *
  generalize lim now = N at *
  generalize orL l x.came = O at *
  generalize toldL l = T at *
  rw [wr64_id (n := T + max C A) (by unfold I64; omega), wr64_id (n := T + max C A - A) (by unfold I64; omega), wr64_id (n := max C A - O) (by unfold I64; omega)]
  rw [wr64_id (n := max (T + max C A - A) (max (max C A - O) 0) + max N (max C A)) (by unfold I64; omega), wr64_id (by unfold I64; omega)]
  omega
theorem eCoR_ok : EntOk Try.prog eCoR := entC_ok (by
  intro a rows p v news h hp
  split at h <;> simp only [Option.some.injEq, Prod.mk.injEq, reduceCtorEq] at h
  obtain ⟨rfl, rfl, rfl⟩ := h
  obtain ⟨⟨l, rfl, rfl⟩, h1, h2⟩ := hp
  simp only [ctR, BgR, dF0, List.append_nil] at h2 ⊢
  exact Rc_con l h1 (h2 _))
theorem Pg_round (g : GPg) (i : Nat) (Inv : Nat → Prop) (m : Nat → Nat) : mev EtPg noM 60 27 (0 :: pPg) false (codeOf Try.prog 27 (0 :: pPg)) ⟨mkOv (slPg g i), 25, []⟩ none ⟨mkR (rlPg g i), 2⟩ (roundK 1 2 25 Inv m (slPg g) (rlPg g) (wsPg g) i) =
  let z1 := (Eq (α := List Value) (gC enF g.1) (gC enF g.1)); let z2 := (cellS (gC enP g.2) (0 + Int.toNat (↑i : Int) * 3)); (br (decide ((↑i : Int) < (↑(List.length g.2) :
  Int))) (br (decide ((0 : Int) <= (↑i : Int) /\ (↑i : Int) < (↑(List.length g.2) : Int))) ((Eq (α := Option Value) ((gC enP g.2)[0 + Int.toNat (↑i : Int) * 3]?) (some
  (Value.string z2))) /\ ((Eq (α := Option Value) ((gC enP g.2)[0 + Int.toNat (↑i : Int) * 3 + 1]?) (some (Value.string (cellS (gC enP g.2) (0 + Int.toNat (↑i : Int) * 3 +
  1))))) /\ ((Eq (α := Option Value) ((gC enP g.2)[0 + Int.toNat (↑i : Int) * 3 + 1 + 1]?) (some (Value.bool (cellB (gC enP g.2) (0 + Int.toNat (↑i : Int) * 3 + 1 + 1)))))
  /\ (br (strEq z2 (ByteArray.mk #[110, 111, 45, 99, 97, 99, 104, 101])) (∃ y : Unit, ((List.any g.2 noC = true) /\ ((true = true) /\ (z1 /\ ((Plain (gC enF g.1)) /\
  True))))) (∃ j : Nat, ((Inv j) /\ ((m j < m i) /\ ((0 = 0) /\ ((List.length g.2 = List.length g.2) /\ (((↑(List.length g.2) : Int) = (↑(List.length g.2) : Int)) /\ (((↑j :
  Int) = IntKind.wrap IntKind.i64 ((↑i : Int) + (1 : Int))) /\ (z1 /\ ((Plain (gC enF g.1)) /\ ((Eq (α := List Value) (gC enP g.2) (gC enP g.2)) /\ ((Plain (gC enP g.2)) /\
  True))))))))))))))) False) (∃ y : Unit, ((List.any g.2 noC = false) /\ (z1 /\ ((Plain (gC enF g.1)) /\ True))))) := by kernel_rfl
theorem Pg_vc (l : List Fl) (v : Bool) : mcall EtPg mPg 60 27 [.slice (some ⟨0, 0, none⟩) l.length 2] ⟨mkR (nums 0 [gRo enF l]), 1⟩ (retIs 1 (.bool v) [gRo enF l]) =
  let z1 := ((0 + List.length l * 2 <= List.length (gC enF l) /\ Plain (List.take (List.length l * 2) (List.drop 0 (gC enF l)))) /\ (True /\ True)); let z2 := (ByteArray.mk
  #[99, 97, 99, 104, 101, 45, 99, 111, 110, 116, 114, 111, 108]); let z3 := (prC (rT l) (ByteArray.mk #[112, 114, 97, 103, 109, 97])); (((z1 /\ ((True /\ True) /\ (True /\
  (IsF (rT l) (List.length l) /\ (List.length l <= 9223372036854775807 /\ alB (rT l) z2 <= 16777216)))))) /\ (br (decide (alN (rT l) z2 > (0 : Int))) ((v = false) /\ ((Eq (α
  := List Value) (gC enF l) (gC enF l)) /\ ((Plain (gC enF l)) /\ True))) (((z1 /\ ((True /\ True) /\ ((Plain z3 /\ True) /\ (IsF (rT l) (List.length l) /\ (List.length l <=
  9223372036854775807 /\ alB (rT l) (ByteArray.mk #[112, 114, 97, 103, 109, 97]) <= 16777000)))))) /\ (∃ g : GPg, ((List.length g.2 <= 9223372036854775807) /\ ((0 = 0) /\
  ((List.length g.2 = prN (rT l) (ByteArray.mk #[112, 114, 97, 103, 109, 97])) /\ (((↑(List.length g.2) : Int) = Int.ofNat (prN (rT l) (ByteArray.mk #[112, 114, 97, 103,
  109, 97]))) /\ (((0 : Int) = (0 : Int)) /\ ((Eq (α := List Value) (gC enF g.1) (gC enF l)) /\ ((Plain (gC enF g.1)) /\ ((Eq (α := List Value) (gC enP g.2) z3) /\ ((Plain
  (gC enP g.2)) /\ (∀ (side : Bool), (br (side) (∀ (y : Unit), ((List.any g.2 noC = false) → ((v = false) /\ ((Eq (α := List Value) (gC enF l) (gC enF g.1)) /\ ((Plain (gC
  enF l)) /\ True))))) (∀ (y : Unit), ((List.any g.2 noC = true) → ((v = true) /\ ((Eq (α := List Value) (gC enF l) (gC enF g.1)) /\ ((Plain (gC enF l)) /\
  True)))))))))))))))))))) := by kernel_rfl
theorem Us_vc (x : En12) (y : Rq6) (d l q : List Fl) (now : Int) (sh : Nat) (v : Int) : mcall EtUs noM 60 14 [.agg ⟨enT x 0 d.length 1 l.length⟩, .agg ⟨rqT y 2 q.length⟩, .int .i64 now, .float .f64 sh] ⟨mkR (nums 0 [gRo enF d, gRo enF l, gRo enF q]), 3⟩ (retIs 3 (.int .i64 v) [gRo enF d, gRo enF l, gRo enF q]) =
  let z1 := ((Eq (α := List Value) (gC enF d) (gC enF d)) /\ ((Plain (gC enF d)) /\ ((Eq (α := List Value) (gC enF l) (gC enF l)) /\ ((Plain (gC enF l)) /\ ((Eq (α := List
  Value) (gC enF q) (gC enF q)) /\ ((Plain (gC enF q)) /\ True)))))); let z2 := (Array.mk [Value.string x.1, Value.string x.2, Value.string x.3, Value.string x.4,
  Value.slice (some (Addr.mk 0 0 none)) (List.length d) 2, Value.int IntKind.i64 x.5, Value.int IntKind.i64 x.6, Value.slice (some (Addr.mk 1 0 none)) (List.length l) 2,
  Value.int IntKind.i64 x.7, Value.string x.8, Value.int IntKind.i64 x.9, Value.int IntKind.i64 x.10]); let z3 := (br ((ctR (rT q)).6) ((v = (4 : Int)) /\ z1) ((v = (2 :
  Int)) /\ z1)); let z4 := ((((True /\ (True /\ (True /\ (True /\ ((0 + List.length d * 2 <= List.length (gC enF d) /\ Plain (List.take (List.length d * 2) (List.drop 0 (gC
  enF d)))) /\ (True /\ (True /\ ((0 + List.length l * 2 <= List.length (gC enF l) /\ Plain (List.take (List.length l * 2) (List.drop 0 (gC enF l)))) /\ (True /\ (True /\
  (True /\ (True /\ True)))))))))))) /\ (True /\ True)) /\ ((True /\ (True /\ True)) /\ (True /\ (IsF (rT d) (List.length d) /\ (IsF (rT l) (List.length l) /\ (List.length d
  <= 9223372036854775807 /\ (List.length l <= 9223372036854775807 /\ BgR (rT l))))))))); let z5 := (br (decide (ageR (rT l) x.9 x.10 now < lifeR (rT l) x.10 x.6 sh)) (br
  (decide ((ctR (rT q)).10 <= IntKind.wrap IntKind.i64 (lifeR (rT l) x.10 x.6 sh - ageR (rT l) x.9 x.10 now))) ((v = (1 : Int)) /\ z1) z3) (br (decide ((ctR (rT q)).9 ≥
  IntKind.wrap IntKind.i64 (ageR (rT l) x.9 x.10 now - lifeR (rT l) x.10 x.6 sh))) (br (!(ctR (rT l)).5) (br (decide ((ctR (rT l)).8 < (0 : Int))) (br (decide ((ctR (rT
  q)).10 < (0 : Int))) ((v = (1 : Int)) /\ z1) z3) z3) z3) z3)); let z6 := ((((0 + List.length q * 2 <= List.length (gC enF q) /\ Plain (List.take (List.length q * 2)
  (List.drop 0 (gC enF q)))) /\ True) /\ ((True /\ True) /\ (True /\ (IsF (rT q) (List.length q) /\ (List.length q <= 9223372036854775807 /\ BgR (rT q))))))); let z7 :=
  (Value.slice (some (Addr.mk 2 0 none)) (List.length q) 2 = Value.slice (some (Addr.mk 2 0 none)) (List.length q) 2); (((((0 + List.length l * 2 <= List.length (gC enF l)
  /\ Plain (List.take (List.length l * 2) (List.drop 0 (gC enF l)))) /\ True) /\ ((True /\ True) /\ (True /\ (IsF (rT l) (List.length l) /\ (List.length l <=
  9223372036854775807 /\ BgR (rT l))))))) /\ (z6 /\ ((Value.slice (some (Addr.mk 1 0 none)) (List.length l) 2 = Value.slice (some (Addr.mk 1 0 none)) (List.length l) 2) /\
  (z7 /\ (z7 /\ (z4 /\ (z4 /\ ((Value.agg z2 = Value.agg z2) /\ ((Value.agg z2 = Value.agg z2) /\ ((Value.agg z2 = Value.agg z2) /\ (br (!(ctR (rT l)).2) (br (!(ctR (rT
  q)).2) (z6 /\ (br (!prgR (rT q)) (br (decide ((ctR (rT q)).7 < (0 : Int))) z5 (br (decide ((ctR (rT q)).7 ≥ ageR (rT l) x.9 x.10 now)) z5 z3)) z3)) z3) z3))))))))))) := by kernel_rfl
theorem ct_in (l : List Fl) : (ctlL l).ma ≤ 2147483647 ∧ (ctlL l).sh ≤ 2147483647 := by
  have key : ∀ (ps : List Pr) (c : Ct), c.ma ≤ 2147483647 ∧ c.sh ≤ 2147483647 → (ps.foldl stepC c).ma ≤ 2147483647 ∧ (ps.foldl stepC c).sh ≤ 2147483647 := by
    intro ps
    induction ps with
    | nil => intro c h; exact h
    | cons p ps ih =>
      intro c h
      rw [List.foldl_cons]
      refine ih _ ?_
      have hn : numN p ≤ 2147483647 := by
        unfold numN
        have := secL_le p.v
        split <;> omega
      unfold stepC numC flagC smal
      simp only
      constructor
      · split <;> (try split) <;> omega
      · split <;> (try split) <;> omega
  unfold ctlL ctlP
  exact key _ _ ⟨by decide, by decide⟩
theorem life_in (l : List Fl) (c st : Int) (sh : Nat) : 0 ≤ lifeL l c st sh ∧ lifeL l c st sh ≤ 2147483647 := by
  have h1 := ct_in l
  have h2 := or_in l c
  have h3 := dt_in l sExp
  have h4 := dt_in l sLast
  unfold lifeL
  split
  · omega
  · split
    · omega
    · split
      · split <;> omega
      · split
        · have hl : ∀ n, 0 ≤ Go.Proofs.Ytajfdcijpchjdaa.fl.lim n ∧ Go.Proofs.Ytajfdcijpchjdaa.fl.lim n ≤ 2147483647 := fun n => by unfold Go.Proofs.Ytajfdcijpchjdaa.fl.lim; omega
          have := Go.Proofs.Ytajfdcijpchjdaa.fl.shr_le (Go.Proofs.Ytajfdcijpchjdaa.fl.lim (orL l c - dtJ (dtO l sLast))) (Go.Proofs.Ytajfdcijpchjdaa.fl.cl sh) (hl _).1 (hl _).2 (Go.Proofs.Ytajfdcijpchjdaa.fl.cl_unit sh)
          have := (hl (orL l c - dtJ (dtO l sLast))).2
          omega
        · omega
theorem lg_bg {l : List Fl} (h : lgB l = true) : BgL l := fun nm => by
  have h : lgN l ≤ 2000 := by unfold lgB at h; simpa using h
  have := allL_le l nm
  omega
theorem lgR_mk (l : List Fl) (b : Bool) (o : Ob) : lgR ⟨gC enF l, b, o⟩ = lgB l := by unfold lgR; simp only; rw [decF_gC]
theorem shR_mk (l : List Fl) (b : Bool) (o : Ob) (h : ShortF l) : ShR ⟨gC enF l, b, o⟩ := by unfold ShR; simp only; rw [decF_gC]; exact h
theorem bgR_mk (l : List Fl) (b : Bool) (o : Ob) (h : BgL l) : BgR ⟨gC enF l, b, o⟩ := by unfold BgR; simp only; rw [decF_gC]; exact h
theorem age_in (l : List Fl) (a c n : Int) : 0 ≤ ageL l a c n ∧ ageL l a c n ≤ 2147483647 := by
  have h1 := told_in l
  have h2 := or_in l c
  unfold ageL lim
  omega
theorem lift_br {d l : List Fl} {body : ByteArray} {Q : Prop} (hd : d.length ≤ 1048576) (hd2 : ShortF d) (hl : l.length ≤ 1048576) (hl2 : ShortF l) (h : lgB l = true → Q) :
    (d.length * 2 ≤ d.length * 2 ∧ IsF ⟨gC enF d, true, .cells true⟩ d.length ∧ d.length ≤ 1048576 ∧ ShR ⟨gC enF d, true, .cells true⟩) ∧
    br (lgB d) ((l.length * 2 ≤ l.length * 2 ∧ IsF ⟨gC enF l, true, .cells true⟩ l.length ∧ l.length ≤ 1048576 ∧ ShR ⟨gC enF l, true, .cells true⟩) ∧
      br (lgB l) (br (!decide ((body.data.toList.length : Int) ≤ 2000)) True Q) True) True :=
  ⟨⟨Nat.le_refl _, isF_mk _ _ rfl, hd, shR_mk _ _ _ hd2⟩, br_intro (fun _ => ⟨⟨Nat.le_refl _, isF_mk _ _ rfl, hl, shR_mk _ _ _ hl2⟩, br_intro (fun g => br_intro (fun _ => trivial) (fun _ => h g)) (fun _ => trivial)⟩) (fun _ => trivial)⟩
theorem br_ff0 (X Y : Prop) : br false X Y = Y := rfl
theorem br_tt0 (X Y : Prop) : br true X Y = X := rfl
theorem z_prgR (r : Row) : prgR r = prgL (decF r.cells) := Classical.choose_spec (bool_ex _)
theorem ePa_ok : EntOk Try.prog ePa := entC_ok (by
  intro a rows p v news h hp
  split at h <;> simp only [Option.some.injEq, Prod.mk.injEq, reduceCtorEq] at h
  obtain ⟨rfl, rfl, rfl⟩ := h
  obtain ⟨⟨l, rfl, rfl⟩, h1, h2⟩ := hp
  simp only [prN, prC, prL, alB, dF0] at h2 ⊢
  exact Pa_con l (L _) h1 h2)
theorem tPg_ok : ∀ x ∈ tPg, EntOk Try.prog x := all_cons eAl_ok (all_cons ePa_ok (all_nil))
theorem Pg_piece : PieceOk EtPg 1 (27, pPg, specPg) := by
  refine piece_loop mixed (calls_envT tPg_ok) (lok_envT _ _) lm_none (n := 60) (by kernel_rfl) (fun _ : GPg => (0 : Nat)) (fun g i => i ≤ g.ps.length ∧ (g.ps.take i).any noC = false) (fun g i => g.ps.length - i) (sl := slPg) (rl := rlPg) (fun g hg => ⟨Nat.zero_le _, by simp⟩) (fun g i hg hi => ?_)
  refine (Pg_round g i _ _).mpr ?_
  obtain ⟨l, ps⟩ := g
  obtain ⟨h1, h2⟩ := hi
  have hm : maxLen = 9223372036854775807 := by unfold maxLen; rfl
  simp only at h1 h2 hg
  simp only [ofNat_eq, toNat_cast, Nat.zero_add, Nat.add_zero, Nat.mul_one, List.drop_zero, bCells_len, bCells_drop, bCells_take, bCells_app, bCells_one, bCells_plain, List.length_replicate, List.length_append, List.length_take, List.length_drop, List.take_length, and_true, true_and, and_self, decide_true, List.length_nil, List.length_cons, Nat.sub_zero, dB_mk, dB_ro, List.take_zero, rT, fPl, pPl, pLen]
  have bNo : (⟨#[110, 111, 45, 99, 97, 99, 104, 101]⟩ : ByteArray) = bs sNoCache := rfl
  refine br_if (fun h => ?_) (fun h => ?_)
  · have hi : i < ps.length := by omega
    obtain ⟨p1, p2, p3, p4, p5, p6⟩ := pGet ps i hi
    have w : IntKind.i64.wrap ((i : Int) + 1) = ((i + 1 : Nat) : Int) := i64_succ (by omega)
    have p3' : (gC enP ps)[i * 3 + 1 + 1]? = some (.bool ps[i].h) := p3
    have p6' : cellB (gC enP ps) (i * 3 + 1 + 1) = ps[i].h := p6
    have ht : ps.take (i + 1) = ps.take i ++ [ps[i]] := by rw [List.take_add_one, List.getElem?_eq_getElem hi]; rfl
    rw [p4, p5, p6', w, bNo, strEq_bs]
    refine br_dec (by omega) ⟨p1, p2, p3', br_intro (fun c => ⟨(), ?_⟩) (fun c => ⟨i + 1, ⟨by omega, ?_⟩, by omega, rfl⟩)⟩
    · rw [List.any_eq_true]
      exact ⟨ps[i], List.getElem_mem hi, by unfold noC; exact c⟩
    · rw [ht, List.any_append, h2]
      simp only [List.any_cons, List.any_nil, Bool.or_false, Bool.false_or]
      unfold noC; exact c
  · rw [List.take_of_length_le (by omega)] at h2
    exact ⟨(), h2⟩
theorem pg_con (l : List Fl) (hl : l.length ≤ maxLen) (hb : BgL l) : Con Try.prog 27 [.slice (some ⟨0, 0, none⟩) l.length 2] [gRo enF l] (.bool (prgL l)) [gRo enF l] := by
  refine con_vc (E := EtPg) mixed (calls_envT tPg_ok) (lok_envT _ _) (M := mPg) (lm_one Pg_piece) (Pg_vc l _) ?_
  have hm : maxLen = 9223372036854775807 := by unfold maxLen; rfl
  simp only [ofNat_eq, toNat_cast, Nat.zero_add, Nat.add_zero, Nat.mul_one, List.drop_zero, bCells_len, bCells_drop, bCells_take, bCells_app, bCells_one, bCells_plain, List.length_replicate, List.length_append, List.length_take, List.length_drop, List.take_length, and_true, true_and, and_self, decide_true, List.length_nil, List.length_cons, Nat.sub_zero, dB_mk, dB_ro, List.take_zero, rT, fPl, fLen, fTake, n_alV, n_alN, n_alB]
  have bCC : (⟨#[99, 97, 99, 104, 101, 45, 99, 111, 110, 116, 114, 111, 108]⟩ : ByteArray) = bs sCC := rfl
  have bPr : (⟨#[112, 114, 97, 103, 109, 97]⟩ : ByteArray) = bs sPrag := rfl
  have b1 := hb sCC
  have b2 := hb sPrag
  have e1 : ∀ b o, prN ⟨gC enF l, b, o⟩ (bs sPrag) = (pairsL l sPrag).length := fun b o => by unfold prN prL; simp only; rw [decF_gC, L_bs]
  have e2 : ∀ b o, prC ⟨gC enF l, b, o⟩ (bs sPrag) = gC enP (pairsL l sPrag) := fun b o => by unfold prC prL; simp only; rw [decF_gC, L_bs]
  simp only [bCC, bPr, n_alN, n_alB, e1, e2, pPl]
  have hpl : (pairsL l sPrag).length ≤ 9223372036854775807 := by have := pairs_len l sPrag; omega
  have i1 : IsF ⟨gC enF l, true, .cells true⟩ l.length := isF_mk _ _ rfl
  refine ⟨⟨Nat.le_refl _, i1, by omega, by omega⟩, br_if (fun h => ?_) (fun h => ⟨⟨Nat.le_refl _, trivial, i1, by omega, by omega⟩, ⟨l, pairsL l sPrag⟩, hpl, rfl, rfl, rfl, rfl, trivial, fun side => br_intro (fun _ => fun _ h2 => ⟨?_, rfl⟩) (fun _ => fun _ h2 => ⟨?_, rfl⟩)⟩)⟩
  · unfold prgL; rw [if_pos (by omega)]
  · unfold prgL; rw [if_neg (by omega)]; exact h2
  · unfold prgL; rw [if_neg (by omega)]; exact h2
theorem ePg_ok : EntOk Try.prog ePg := entC_ok (by
  intro a rows p v news h hp
  split at h <;> simp only [Option.some.injEq, Prod.mk.injEq, reduceCtorEq] at h
  obtain ⟨rfl, rfl, rfl⟩ := h
  obtain ⟨⟨l, rfl, rfl⟩, h1, h2⟩ := hp
  simp only [z_prgR, BgR, dF0, List.append_nil] at h2 ⊢
  exact pg_con l h1 h2)
theorem eLi_ok : EntOk Try.prog eLi := entC_ok (by
  intro a rows p v news h hp
  split at h <;> simp only [Option.some.injEq, Prod.mk.injEq, reduceCtorEq] at h
  obtain ⟨rfl, rfl, rfl⟩ := h
  obtain ⟨⟨d, rfl, rfl⟩, ⟨l, rfl, rfl⟩, h1, h2, h3⟩ := hp
  simp only [z_lifeR, BgR, dF0, List.append_nil] at h3 ⊢
  exact li_con ⟨_, _, _, _, _, _, _, _, _, _⟩ d l _ h1 h2 h3)
theorem eAg_ok : EntOk Try.prog eAg := entC_ok (by
  intro a rows p v news h hp
  split at h <;> simp only [Option.some.injEq, Prod.mk.injEq, reduceCtorEq] at h
  obtain ⟨rfl, rfl, rfl⟩ := h
  obtain ⟨⟨d, rfl, rfl⟩, ⟨l, rfl, rfl⟩, h1, h2, h3⟩ := hp
  simp only [z_ageR, BgR, dF0, List.append_nil] at h3 ⊢
  exact ag_con ⟨_, _, _, _, _, _, _, _, _, _⟩ d l _ h1 h2 h3)
theorem tUs_ok : ∀ x ∈ tUs, EntOk Try.prog x := all_cons eCo_ok (all_cons ePg_ok (all_cons eAg_ok (all_cons eLi_ok (all_nil))))
theorem us_con (x : En12) (y : Rq6) (d l q : List Fl) (now : Int) (sh : Nat) (hd : d.length ≤ maxLen) (hl : l.length ≤ maxLen) (hq : q.length ≤ maxLen) (hb : BgL l) (hbq : BgL q) :
    Con Try.prog 14 [.agg ⟨enT x 0 d.length 1 l.length⟩, .agg ⟨rqT y 2 q.length⟩, .int .i64 now, .float .f64 sh] [gRo enF d, gRo enF l, gRo enF q] (.int .i64 (useI (ctlL l) (ctlL q) (prgL q) (ageL l x.asked x.came now) (lifeL l x.came x.st sh))) [gRo enF d, gRo enF l, gRo enF q] := by
  refine con_vc (E := EtUs) mixed (calls_envT tUs_ok) (lok_envT _ _) (M := noM) lm_none (Us_vc x y d l q now sh _) ?_
  have hm : maxLen = 9223372036854775807 := by unfold maxLen; rfl
  simp only [ofNat_eq, toNat_cast, Nat.zero_add, Nat.add_zero, Nat.mul_one, List.drop_zero, bCells_len, bCells_drop, bCells_take, bCells_app, bCells_one, bCells_plain, List.length_replicate, List.length_append, List.length_take, List.length_drop, List.take_length, and_true, true_and, and_self, decide_true, List.length_nil, List.length_cons, Nat.sub_zero, dB_mk, dB_ro, List.take_zero, rT, fPl, fLen, fTake, z_ageR, z_lifeR, z_prgR, decF_gC, ctR]
  have i1 : IsF ⟨gC enF l, true, .cells true⟩ l.length := isF_mk _ _ rfl
  have i2 : IsF ⟨gC enF d, true, .cells true⟩ d.length := isF_mk _ _ rfl
  have i3 : IsF ⟨gC enF q, true, .cells true⟩ q.length := isF_mk _ _ rfl
  have Pl : l.length * 2 ≤ l.length * 2 ∧ IsF ⟨gC enF l, true, .cells true⟩ l.length ∧ l.length ≤ 9223372036854775807 ∧ BgR ⟨gC enF l, true, .cells true⟩ := ⟨Nat.le_refl _, i1, by omega, bgR_mk _ _ _ hb⟩
  have Pq : q.length * 2 ≤ q.length * 2 ∧ IsF ⟨gC enF q, true, .cells true⟩ q.length ∧ q.length ≤ 9223372036854775807 ∧ BgR ⟨gC enF q, true, .cells true⟩ := ⟨Nat.le_refl _, i3, by omega, bgR_mk _ _ _ hbq⟩
  have P : (d.length * 2 ≤ d.length * 2 ∧ l.length * 2 ≤ l.length * 2) ∧ IsF ⟨gC enF d, true, .cells true⟩ d.length ∧ IsF ⟨gC enF l, true, .cells true⟩ l.length ∧ d.length ≤ 9223372036854775807 ∧ l.length ≤ 9223372036854775807 ∧ BgR ⟨gC enF l, true, .cells true⟩ := ⟨⟨Nat.le_refl _, Nat.le_refl _⟩, i2, i1, by omega, by omega, bgR_mk _ _ _ hb⟩
  refine ⟨Pl, Pq, P, P, ?_⟩
  simp only [Pq, true_and]
  have h1 := age_in l x.asked x.came now
  have h2 := life_in l x.came x.st sh
  generalize ageL l x.asked x.came now = A at *
  generalize lifeL l x.came x.st sh = F at *
  have w1 : IntKind.i64.wrap (F - A) = F - A := wr64_id (by unfold I64; omega)
  have w2 : IntKind.i64.wrap (A - F) = A - F := wr64_id (by unfold I64; omega)
  simp only [w1, w2]
  unfold useI young alive
  generalize (ctlL l).nc = a1
  generalize (ctlL q).nc = a2
  generalize prgL q = a3
  generalize (ctlL q).ma = a4
  generalize (ctlL q).fr = a5
  generalize (ctlL q).st = a6
  generalize (ctlL l).ms = a7
  generalize (ctlL l).sh = a8
  generalize (ctlL q).on = a9
  cases a1 <;> cases a2 <;> cases a3 <;> cases a7 <;> cases a9 <;> simp only [br_tt0, br_ff0, Bool.not_true, Bool.not_false, Bool.true_and, Bool.false_and, Bool.false_eq_true, if_true, if_false, Bool.and_false]
  all_goals first | done | (repeat' refine br_if (fun _ => ?_) (fun _ => ?_)) <;> grind
end Go.Proofs.Ytajfdcijpchjdaa.tk
