/- What fields come to as a message: models. -/
import Derived.Test.YteodlmfnkjdhhaaSz9
import Derived.Test.YteodlmfnkjdhhaaRows
import Derived.Test.YteodlmfnkjdhhaaLctl
import Derived.Test.YteodlmfnkjdhhaaLtkfacts
import Derived.Test.YteodlmfnkjdhhaaLlgt
import Derived.Test.YteodlmfnkjdhhaaLbrt
import Derived.Test.YteodlmfnkjdhhaaLbsx
set_option linter.unusedSimpArgs false
set_option linter.unusedVariables false
namespace Go.Proofs.Yteodlmfnkjdhhaa.tk
open Go Go.Ev Go.Sy Go.RowKit Go.Proofs.Yteodlmfnkjdhhaa.gl
def sConn : List UInt8 := [99, 111, 110, 110, 101, 99, 116, 105, 111, 110]
def sPConn : List UInt8 := [112, 114, 111, 120, 121, 45, 99, 111, 110, 110, 101, 99, 116, 105, 111, 110]
def sKeep : List UInt8 := [107, 101, 101, 112, 45, 97, 108, 105, 118, 101]
def sTrEn : List UInt8 := [116, 114, 97, 110, 115, 102, 101, 114, 45, 101, 110, 99, 111, 100, 105, 110, 103]
def sUpg : List UInt8 := [117, 112, 103, 114, 97, 100, 101]
def sTe : List UInt8 := [116, 101]
def sTrail : List UInt8 := [116, 114, 97, 105, 108, 101, 114, 115]
def sCLen : List UInt8 := [99, 111, 110, 116, 101, 110, 116, 45, 108, 101, 110, 103, 116, 104]
def sMet : List UInt8 := [58, 109, 101, 116, 104, 111, 100]
def sSch : List UInt8 := [58, 115, 99, 104, 101, 109, 101]
def sAut : List UInt8 := [58, 97, 117, 116, 104, 111, 114, 105, 116, 121]
def sPat : List UInt8 := [58, 112, 97, 116, 104]
def sSta : List UInt8 := [58, 115, 116, 97, 116, 117, 115]
def sCNCT : List UInt8 := [67, 79, 78, 78, 69, 67, 84]
def sHttp : List UInt8 := [104, 116, 116, 112]
def sHttps : List UInt8 := [104, 116, 116, 112, 115]
def sOPT : List UInt8 := [79, 80, 84, 73, 79, 78, 83]
def colB : List UInt8 → Bool
  | c :: _ => c == 58
  | [] => false
/-- How many fields at the beginning have a name with a colon ahead. -/
def psN (l : List Fl) : Nat := (l.takeWhile fun f => colB f.n).length
def ocL (n : List UInt8) : Bool := decide (n = sConn) || (decide (n = sPConn) || (decide (n = sKeep) || (decide (n = sTrEn) || decide (n = sUpg))))
def ocS (s : ByteArray) : Bool := ocL (L s)
def plF (f : Fl) : Bool := tokL f.n && (decide (lowerL f.n = f.n) && (valL f.v && (!ocL f.n && !(decide (f.n = sTe) && !decide (f.v = sTrail)))))
def plL (l : List Fl) : Bool := l.all plF
def plR (r : Row) : Bool := plL (decF r.cells)
def isDg (c : UInt8) : Bool := decide (48 ≤ c.toNat ∧ c.toNat ≤ 57)
def digF : List UInt8 → Nat → Option Nat
  | [], n => some n
  | c :: r, n => if isDg c then digF r (n * 10 + (c.toNat - 48)) else none
def digL (l : List UInt8) (lo hi : Nat) : Option Nat := if lo ≤ l.length ∧ l.length ≤ hi then digF l 0 else none
def dgV (o : Option Nat) : Int := (o.getD 0 : Nat)
/-- The content's length: -1: none said; -2: said wrongly. -/
def lenG : Int → List Fl → Int
  | n, [] => n
  | n, f :: l => if f.n = sCLen then (match digL f.v 1 9 with
    | none => -2
    | some m => if n ≠ -1 ∧ (m : Int) ≠ n then -2 else lenG m l) else lenG n l
def lenL (l : List Fl) : Int := lenG (-1) l
def lenR (r : Row) : Int := lenL (decF r.cells)
structure RqP where
  m : List UInt8
  s : List UInt8
  a : List UInt8
  p : List UInt8
def rq0 : RqP := ⟨[], [], [], []⟩
def nmIn (nm : List UInt8) (l : List Fl) : Bool := l.any fun f => decide (f.n = nm)
def setP (r : RqP) (f : Fl) : Option RqP :=
  if f.n = sMet then some ⟨f.v, r.s, r.a, r.p⟩ else if f.n = sSch then some ⟨r.m, f.v, r.a, r.p⟩ else if f.n = sAut then some ⟨r.m, r.s, f.v, r.p⟩ else if f.n = sPat then some ⟨r.m, r.s, r.a, f.v⟩ else none
def rqG (done : List Fl) (r : RqP) : List Fl → Option RqP
  | [] => some r
  | f :: l => if valL f.v && !nmIn f.n done then (match setP r f with
    | none => none
    | some r' => rqG (done ++ [f]) r' l) else none
def slB : List UInt8 → Bool
  | c :: _ => c == 47
  | [] => false
def cpB (r : RqP) : Bool := tokL r.m && (!decide (r.m = sCNCT) && (!decide (r.a = []) && ((decide (r.s = sHttp) || decide (r.s = sHttps)) && ((decide (r.m = sOPT) && decide (r.p = [42])) || slB r.p))))
structure RqO where
  r : RqP
  k : Int
  f : List Fl
def rqL (l : List Fl) : Option RqO := match rqG [] rq0 (l.take (psN l)) with
  | none => none
  | some r => if plL (l.drop (psN l)) && (!decide (lenL (l.drop (psN l)) = -2) && cpB r) then some ⟨r, lenL (l.drop (psN l)), l.drop (psN l)⟩ else none
def rqZ (o : Option RqO) : RqO := o.getD ⟨rq0, 0, []⟩
structure RsO where
  st : Int
  k : Int
  f : List Fl
def stOk (s : Nat) : Bool := decide (100 ≤ s) && (decide (s ≤ 599) && !decide (s = 101))
def rsL : List Fl → Option RsO
  | [] => none
  | f :: r => if f.n = sSta then (match digL f.v 3 3 with
    | none => none
    | some s => if stOk s && (plL r && !decide (lenL r = -2)) then some ⟨s, lenL r, r⟩ else none) else none
def rsZ (o : Option RsO) : RsO := o.getD ⟨0, 0, []⟩
def rqM (r : Row) : ByteArray := bs (rqZ (rqL (decF r.cells))).r.m
def rqS (r : Row) : ByteArray := bs (rqZ (rqL (decF r.cells))).r.s
def rqA (r : Row) : ByteArray := bs (rqZ (rqL (decF r.cells))).r.a
def rqP (r : Row) : ByteArray := bs (rqZ (rqL (decF r.cells))).r.p
def rqK (r : Row) : Int := (rqZ (rqL (decF r.cells))).k
def rqN (r : Row) : Nat := (rqZ (rqL (decF r.cells))).f.length
def rqC (r : Row) : List Value := gC enF (rqZ (rqL (decF r.cells))).f
def rqB (r : Row) : Bool := (rqL (decF r.cells)).isSome
def rsS (r : Row) : Int := (rsZ (rsL (decF r.cells))).st
def rsK (r : Row) : Int := (rsZ (rsL (decF r.cells))).k
def rsN (r : Row) : Nat := (rsZ (rsL (decF r.cells))).f.length
def rsC (r : Row) : List Value := gC enF (rsZ (rsL (decF r.cells))).f
def rsB (r : Row) : Bool := (rsL (decF r.cells)).isSome
theorem n_lg (l : List Fl) (b : Bool) (o : Ob) : lgR ⟨gC enF l, b, o⟩ = lgB l := by unfold lgR; simp only; rw [decF_gC]
theorem n_sh (l : List Fl) (b : Bool) (o : Ob) : ShR ⟨gC enF l, b, o⟩ = ShortF l := by unfold ShR; simp only; rw [decF_gC]
theorem n_pl (l : List Fl) (b : Bool) (o : Ob) : plR ⟨gC enF l, b, o⟩ = plL l := by unfold plR; simp only; rw [decF_gC]
theorem n_len (l : List Fl) (b : Bool) (o : Ob) : lenR ⟨gC enF l, b, o⟩ = lenL l := by unfold lenR; simp only; rw [decF_gC]
theorem digF_le : ∀ (l : List UInt8) (n m : Nat), digF l n = some m → m < (n + 1) * 10 ^ l.length
  | [], n, m, h => by simp [digF] at h; subst h; simp
  | c :: r, n, m, h => by
    rw [digF] at h
    split at h
    · rename_i hc
      have := digF_le r _ m h
      unfold isDg at hc; simp at hc
      have h2 : (n * 10 + (c.toNat - 48) + 1) * 10 ^ r.length ≤ ((n + 1) * 10) * 10 ^ r.length := Nat.mul_le_mul_right _ (by omega)
      rw [List.length_cons, Nat.pow_succ]
      calc m < _ := this
        _ ≤ _ := h2
        _ = _ := by rw [Nat.mul_assoc, Nat.mul_comm (10 ^ r.length) 10]
    · simp at h
theorem digL_bd {l : List UInt8} {lo hi m : Nat} (hh : hi ≤ 9) (h : digL l lo hi = some m) : m < 1000000000 := by
  unfold digL at h
  split at h
  · rename_i hc
    have := digF_le l 0 m h
    have h2 : 10 ^ l.length ≤ 10 ^ 9 := Nat.pow_le_pow_right (by omega) (by omega)
    omega
  · simp at h
theorem lenG_bd : ∀ (l : List Fl) (n : Int), -2 ≤ n → n < 1000000000 → -2 ≤ lenG n l ∧ lenG n l < 1000000000
  | [], n, h1, h2 => by simp [lenG]; omega
  | f :: l, n, h1, h2 => by
    rw [lenG]
    split
    · split
      · omega
      · rename_i m hm
        have := digL_bd (by omega) hm
        split
        · omega
        · exact lenG_bd l m (by omega) (by omega)
    · exact lenG_bd l n h1 h2
theorem psN_le (l : List Fl) : psN l ≤ l.length := (List.takeWhile_sublist _).length_le
end Go.Proofs.Yteodlmfnkjdhhaa.tk
