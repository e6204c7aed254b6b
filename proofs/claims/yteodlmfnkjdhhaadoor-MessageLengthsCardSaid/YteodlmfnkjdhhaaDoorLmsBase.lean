/- What fields come to as a message: models. -/
import Derived.Test.YteodlmfnkjdhhaaDoorSz9
import Derived.Test.YteodlmfnkjdhhaaDoorRows
import Derived.Test.YteodlmfnkjdhhaaDoorLctl
import Derived.Test.YteodlmfnkjdhhaaDoorLtkfacts
import Derived.Test.YteodlmfnkjdhhaaDoorLlgt
import Derived.Test.YteodlmfnkjdhhaaDoorLbrt
import Derived.Test.YteodlmfnkjdhhaaDoorLbsx
set_option maxRecDepth 20000
set_option linter.unusedSimpArgs false
set_option linter.unusedVariables false
namespace Go.Proofs.YteodlmfnkjdhhaaDoor.tk
open Go Go.Ev Go.Sy Go.RowKit Go.Proofs.YteodlmfnkjdhhaaDoor.gl
def sConn : List UInt8 := [99, 111, 110, 110, 101, 99, 116, 105, 111, 110]
def sPConn : List UInt8 := [112, 114, 111, 120, 121, 45, 99, 111, 110, 110, 101, 99, 116, 105, 111, 110]
def sKeep : List UInt8 := [107, 101, 101, 112, 45, 97, 108, 105, 118, 101]
def sTrEn : List UInt8 := [116, 114, 97, 110, 115, 102, 101, 114, 45, 101, 110, 99, 111, 100, 105, 110, 103]
def sUpg : List UInt8 := [117, 112, 103, 114, 97, 100, 101]
def sTe : List UInt8 := [116, 101]
def sTrail : List UInt8 := [116, 114, 97, 105, 108, 101, 114, 115]
def sCLen : List UInt8 := [99, 111, 110, 116, 101, 110, 116, 45, 108, 101, 110, 103, 116, 104]
def sSta : List UInt8 := [58, 115, 116, 97, 116, 117, 115]
def ocL (n : List UInt8) : Bool := decide (n = sConn) || (decide (n = sPConn) || (decide (n = sKeep) || (decide (n = sTrEn) || decide (n = sUpg))))
def ocS (s : ByteArray) : Bool := ocL (L s)
def plF (f : Fl) : Bool := tokL f.n && (decide (lowerL f.n = f.n) && (valL f.v && (!ocL f.n && !(decide (f.n = sTe) && !decide (f.v = sTrail)))))
def plL (l : List Fl) : Bool := l.all plF
def plR (r : Row) : Bool := plL (decF r.cells)
def isDg (c : UInt8) : Bool := decide (48 ≤ c.toNat ∧ c.toNat ≤ 57)
def digF : List UInt8 → Nat → Option Nat
  | [], n => some n
  | c :: r, n => if isDg c then digF r (n * 10 + (c.toNat - 48)) else none
def digL (l : List UInt8) (lo hi : Nat) : Option Nat := if lo ≤ l.length ∧ l.length ≤ hi then digF l 0 else none
def dgV (o : Option Nat) : Int := (o.getD 0 : Nat)
def lenG : Int → List Fl → Int
  | n, [] => n
  | n, f :: l => if f.n = sCLen then (match digL f.v 1 9 with
    | none => -2
    | some m => if n ≠ -1 ∧ (m : Int) ≠ n then -2 else lenG m l) else lenG n l
def lenL (l : List Fl) : Int := lenG (-1) l
def lenR (r : Row) : Int := lenL (decF r.cells)
structure RqP where
  m : List UInt8
  s : List UInt8
  a : List UInt8
  p : List UInt8
structure RqO where
  r : RqP
  k : Int
  f : List Fl
structure RsO where
  st : Int
  k : Int
  f : List Fl
def stOk (s : Nat) : Bool := decide (100 ≤ s) && (decide (s ≤ 599) && !decide (s = 101))
def rsL : List Fl → Option RsO
  | [] => none
  | f :: r => if f.n = sSta then (match digL f.v 3 3 with
    | none => none
    | some s => if stOk s && (plL r && !decide (lenL r = -2)) then some ⟨s, lenL r, r⟩ else none) else none
def rsZ (o : Option RsO) : RsO := o.getD ⟨0, 0, []⟩
def rsS (r : Row) : Int := (rsZ (rsL (decF r.cells))).st
def rsK (r : Row) : Int := (rsZ (rsL (decF r.cells))).k
def rsN (r : Row) : Nat := (rsZ (rsL (decF r.cells))).f.length
def rsC (r : Row) : List Value := gC enF (rsZ (rsL (decF r.cells))).f
def rsB (r : Row) : Bool := (rsL (decF r.cells)).isSome
theorem n_sh (l : List Fl) (b : Bool) (o : Ob) : ShR ⟨gC enF l, b, o⟩ = ShortF l := by unfold ShR; simp only; rw [decF_gC]
theorem n_pl (l : List Fl) (b : Bool) (o : Ob) : plR ⟨gC enF l, b, o⟩ = plL l := by unfold plR; simp only; rw [decF_gC]
theorem n_len (l : List Fl) (b : Bool) (o : Ob) : lenR ⟨gC enF l, b, o⟩ = lenL l := by unfold lenR; simp only; rw [decF_gC]
theorem digF_le : ∀ (l : List UInt8) (n m : Nat), digF l n = some m → m < (n + 1) * 10 ^ l.length
  | [], n, m, h => by simp [digF] at h; subst h; simp
  | c :: r, n, m, h => by
    rw [digF] at h
    split at h
    · rename_i hc
      have := digF_le r _ m h
      unfold isDg at hc; simp at hc
      have h2 : (n * 10 + (c.toNat - 48) + 1) * 10 ^ r.length ≤ ((n + 1) * 10) * 10 ^ r.length := Nat.mul_le_mul_right _ (by omega)
      rw [List.length_cons, Nat.pow_succ]
      calc m < _ := this
        _ ≤ _ := h2
        _ = _ := by rw [Nat.mul_assoc, Nat.mul_comm (10 ^ r.length) 10]
    · simp at h
theorem digL_bd {l : List UInt8} {lo hi m : Nat} (hh : hi ≤ 9) (h : digL l lo hi = some m) : m < 1000000000 := by
  unfold digL at h
  split at h
  · rename_i hc
    have := digF_le l 0 m h
    have h2 : 10 ^ l.length ≤ 10 ^ 9 := Nat.pow_le_pow_right (by omega) (by omega)
    omega
  · simp at h
end Go.Proofs.YteodlmfnkjdhhaaDoor.tk
