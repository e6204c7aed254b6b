/- What cache-control says: numbers, flags. -/
import Derived.Test.YtideeogedleabaaSz9
import Derived.Test.YtideeogedleabaaRows
import Derived.Test.YtideeogedleabaaLtok
set_option maxRecDepth 20000
set_option linter.unusedSimpArgs false
set_option linter.unusedVariables false
namespace Go.Proofs.Ytideeogedleabaa.tk
open Go Go.Ev Go.Sy Go.RowKit Go.Proofs.Ytideeogedleabaa.gl
def sCC : List UInt8 := [99, 97, 99, 104, 101, 45, 99, 111, 110, 116, 114, 111, 108]
def sNoStore : List UInt8 := [110, 111, 45, 115, 116, 111, 114, 101]
def sNoCache : List UInt8 := [110, 111, 45, 99, 97, 99, 104, 101]
def sPrivate : List UInt8 := [112, 114, 105, 118, 97, 116, 101]
def sPublic : List UInt8 := [112, 117, 98, 108, 105, 99]
def sOnly : List UInt8 := [111, 110, 108, 121, 45, 105, 102, 45, 99, 97, 99, 104, 101, 100]
def sMust : List UInt8 := [109, 117, 115, 116, 45, 114, 101, 118, 97, 108, 105, 100, 97, 116, 101]
def sProxy : List UInt8 := [112, 114, 111, 120, 121, 45, 114, 101, 118, 97, 108, 105, 100, 97, 116, 101]
def sMaxAge : List UInt8 := [109, 97, 120, 45, 97, 103, 101]
def sShared : List UInt8 := [115, 45, 109, 97, 120, 97, 103, 101]
def sMinFresh : List UInt8 := [109, 105, 110, 45, 102, 114, 101, 115, 104]
def sMaxStale : List UInt8 := [109, 97, 120, 45, 115, 116, 97, 108, 101]
def secF : List UInt8 → Nat → Option Nat
  | [], n => some n
  | c :: r, n => if 48 ≤ c.toNat ∧ c.toNat ≤ 57 then secF r (min (n * 10 + (c.toNat - 48)) 2147483647) else none
def secO : Option Nat → Int
  | none => -1
  | some n => (n : Nat)
def secL (l : List UInt8) : Int := if l = [] then -1 else secO (secF l 0)
def secS (s : ByteArray) : Int := secL (L s)
structure Ct where
  ns : Bool
  nc : Bool
  pv : Bool
  pb : Bool
  ms : Bool
  on : Bool
  ma : Int
  sh : Int
  st : Int
  fr : Int
def enC (c : Ct) : List Value := [.bool c.ns, .bool c.nc, .bool c.pv, .bool c.pb, .bool c.ms, .bool c.on, .int .i64 c.ma, .int .i64 c.sh, .int .i64 c.st, .int .i64 c.fr]
def ctV (c : Ct) : Value := .agg ⟨enC c⟩
def c0 : Ct := ⟨false, false, false, false, false, false, -1, -1, -1, -1⟩
def cz : Ct := ⟨false, false, false, false, false, false, 0, 0, 0, 0⟩
def smal (a n : Int) : Int := if a = -1 then n else min a n
def flagC (c : Ct) (n : List UInt8) : Ct := ⟨c.ns || decide (n = sNoStore), c.nc || decide (n = sNoCache), c.pv || decide (n = sPrivate), c.pb || decide (n = sPublic), c.ms || (decide (n = sMust) || decide (n = sProxy)), c.on || decide (n = sOnly), c.ma, c.sh, c.st, c.fr⟩
def numN (p : Pr) : Int := if p.h then max (secL p.v) 0 else 0
def numC (c : Ct) (p : Pr) : Ct := ⟨c.ns, c.nc, c.pv, c.pb, c.ms, c.on, if p.n = sMaxAge then smal c.ma (numN p) else c.ma, if p.n = sShared then smal c.sh (numN p) else c.sh, if p.n = sMaxStale then smal c.st (if p.h then numN p else 2147483647) else c.st, if p.n = sMinFresh then smal c.fr (numN p) else c.fr⟩
def stepC (c : Ct) (p : Pr) : Ct := numC (flagC c p.n) p
def ctlP (l : List Pr) : Ct := l.foldl stepC c0
def ctlL (l : List Fl) : Ct := ctlP (pairsL l sCC)
def ctR (r : Row) : Ct := ctlL (decF r.cells)
theorem secF_le : ∀ (l : List UInt8) (n m : Nat), n ≤ 2147483647 → secF l n = some m → m ≤ 2147483647
  | [], n, m, h, e => by simp [secF] at e; omega
  | c :: r, n, m, h, e => by
    rw [secF] at e
    split at e
    · exact secF_le r _ m (by omega) e
    · simp at e
theorem secL_bd (l : List UInt8) : -1 ≤ secL l ∧ secL l ≤ 2147483647 := by
  unfold secL
  split
  · omega
  · cases h : secF l 0 with
    | none => simp [secO]
    | some n => have := secF_le l 0 n (by omega) h; simp only [secO]; omega
theorem mk_bs (a : Array UInt8) : ByteArray.mk a = bs a.toList := rfl
end Go.Proofs.Ytideeogedleabaa.tk
