/- gl, tok, as one. -/
import Derived.Test.YtcjbpmphkmcmjaaSz9
import Derived.Test.YtcjbpmphkmcmjaaRows
/- Lists of structs as cells: lemmas for any encoding of a fixed width. -/
set_option maxRecDepth 20000
set_option linter.unusedSimpArgs false
set_option linter.unusedVariables false
namespace Go.Proofs.Ytcjbpmphkmcmjaa.gl
open Go Go.Ev Go.Sy Go.RowKit
section
variable {α : Type} (en : α → List Value) (k : Nat)
def gC (l : List α) : List Value := l.flatMap en
def gRo (l : List α) : Row := ⟨gC en l, true, .cells true⟩
def gOwn (l : List α) : Row := ⟨gC en l, false, .cells true⟩
end
section
variable {α : Type} {en : α → List Value} {k : Nat}
theorem gC_cons (a : α) (l : List α) : gC en (a :: l) = en a ++ gC en l := rfl
theorem gC_app (a b : List α) : gC en a ++ gC en b = gC en (a ++ b) := by simp [gC]
theorem gC_len (hk : ∀ a, (en a).length = k) (l : List α) : (gC en l).length = l.length * k := by
  induction l with
  | nil => simp [gC]
  | cons a l ih => rw [gC_cons, List.length_append, ih, hk, List.length_cons, Nat.succ_mul]; omega
theorem gC_drop (hk : ∀ a, (en a).length = k) (l : List α) (i : Nat) : (gC en l).drop (i * k) = gC en (l.drop i) := by
  induction l generalizing i with
  | nil => simp [gC]
  | cons a l ih =>
    cases i with
    | zero => simp
    | succ i =>
      rw [gC_cons, List.drop_succ_cons, ← ih, Nat.succ_mul, Nat.add_comm, ← List.drop_drop, ← hk a, List.drop_left]
theorem gC_take (hk : ∀ a, (en a).length = k) (l : List α) (i : Nat) : (gC en l).take (i * k) = gC en (l.take i) := by
  induction l generalizing i with
  | nil => simp [gC]
  | cons a l ih =>
    cases i with
    | zero => simp [gC]
    | succ i =>
      rw [gC_cons, List.take_succ_cons, gC_cons, ← ih, Nat.succ_mul, Nat.add_comm, List.take_add, ← hk a, List.take_left, List.drop_left]
theorem gC_get (hk : ∀ a, (en a).length = k) (l : List α) (i j : Nat) (hi : i < l.length) (hj : j < k) : (gC en l)[i * k + j]? = (en l[i])[j]? := by
  have h := gC_drop hk l i
  rw [List.drop_eq_getElem_cons hi, gC_cons] at h
  have e : (gC en l)[i * k + j]? = ((gC en l).drop (i * k))[j]? := by rw [List.getElem?_drop]
  rw [e, h, List.getElem?_append_left (by rw [hk]; exact hj)]
theorem gC_set (hk : ∀ a, (en a).length = k) (l : List α) (i : Nat) (b : α) (hi : i < l.length) : ovr (gC en l) (i * k) (en b) = gC en (l.set i b) := by
  unfold ovr
  rw [gC_take hk, hk, show i * k + k = (i + 1) * k from (Nat.succ_mul i k).symm, gC_drop hk, List.set_eq_take_append_cons_drop, if_pos hi, ← gC_app, gC_cons]
theorem gC_plain (h : ∀ a, Plain (en a)) (l : List α) : Plain (gC en l) := by
  intro v hv
  obtain ⟨a, _, h'⟩ := List.mem_flatMap.1 hv
  exact h a v h'
theorem gC_one (h : ∀ a, allOne (en a) = true) (l : List α) : allOne (gC en l) = true := by
  induction l with
  | nil => rfl
  | cons a l ih =>
    have h2 := h a
    rw [gC_cons]
    have : ∀ c : List Value, allOne c = true → allOne (c ++ gC en l) = true := by
      intro c
      induction c with
      | nil => intro _; exact ih
      | cons v c ih2 => intro hc; simp only [List.cons_append, allOne, Bool.and_eq_true] at hc ⊢; exact ⟨hc.1, ih2 hc.2⟩
    exact this _ h2
end
end Go.Proofs.Ytcjbpmphkmcmjaa.gl

/- Texts as lists of bytes; tokens, lists, quoted texts, pairs: what they come to. -/
set_option maxRecDepth 20000
set_option linter.unusedSimpArgs false
set_option linter.unusedVariables false
namespace Go.Proofs.Ytcjbpmphkmcmjaa.tk
open Go Go.Ev Go.Sy Go.RowKit Go.Proofs.Ytcjbpmphkmcmjaa.gl
noncomputable abbrev E0 : Env := envN Try.prog
def bs (l : List UInt8) : ByteArray := ⟨l.toArray⟩
def tokN (n : Nat) : Bool := decide (97 ≤ n ∧ n ≤ 122 ∨ 65 ≤ n ∧ n ≤ 90 ∨ 48 ≤ n ∧ n ≤ 57) || [33, 35, 36, 37, 38, 39, 42, 43, 45, 46, 94, 95, 124, 126, 96].contains n
def spN (n : Nat) : Bool := n == 32 || n == 9
def ctlN (n : Nat) : Bool := decide (n < 32) && n != 9 || n == 127
def tkI (n : Int) : Bool := tokN n.toNat
def spI (n : Int) : Bool := spN n.toNat
def Byt (n : Int) : Prop := 0 ≤ n ∧ n < 256
def allTk (l : List UInt8) : Bool := l.all fun c => tokN c.toNat
def tokL (l : List UInt8) : Bool := allTk l && !l.isEmpty
def lowC (c : UInt8) : UInt8 := if 65 ≤ c.toNat ∧ c.toNat ≤ 90 then UInt8.ofNat (c.toNat + 32) else c
def lowerL (l : List UInt8) : List UInt8 := l.map lowC
def spC (c : UInt8) : Bool := spN c.toNat
def trimF (l : List UInt8) : List UInt8 := l.dropWhile spC
def trimB (l : List UInt8) : List UInt8 := (l.reverse.dropWhile spC).reverse
def trimL (l : List UInt8) : List UInt8 := trimB (trimF l)
def addEl (e : List UInt8) : List (List UInt8) := if trimL e = [] then [] else [trimL e]
def spl : Bool → List UInt8 → List UInt8 → Option (List (List UInt8))
  | q, cur, [] => if q then none else some (addEl cur)
  | q, cur, c :: r =>
    if c = 34 then spl (!q) (cur ++ [c]) r
    else if q ∧ c = 92 then (match r with
      | [] => none
      | d :: r' => spl q (cur ++ [c, d]) r')
    else if q = false ∧ c = 44 then (spl q [] r).map fun l => addEl cur ++ l
    else spl q (cur ++ [c]) r
def splitL (l : List UInt8) : Option (List (List UInt8)) := spl false [] l
def unq : List UInt8 → Option (List UInt8)
  | [] => some []
  | c :: r =>
    if c = 34 then none
    else if c = 92 then (match r with
      | [] => none
      | d :: r' => if ctlN d.toNat then none else (unq r').map (d :: ·))
    else if ctlN c.toNat then none else (unq r).map (c :: ·)
def unqL (l : List UInt8) : Option (List UInt8) :=
  if tokL l then some l
  else if l.length < 2 ∨ l.getD 0 0 ≠ 34 ∨ l.getD (l.length - 1) 0 ≠ 34 then none
  else unq ((l.drop 1).take (l.length - 2))
structure Pr where
  n : List UInt8
  v : List UInt8
  h : Bool
def ofL (l : List UInt8) : Option Pr :=
  if tokL l then some ⟨lowerL l, [], false⟩
  else if (61 : UInt8) ∈ l then
    (match unqL ((l.dropWhile (· != 61)).drop 1) with
    | none => none
    | some v => if tokL (l.takeWhile (· != 61)) then some ⟨lowerL (l.takeWhile (· != 61)), v, true⟩ else none)
  else none
structure Fl where
  n : List UInt8
  v : List UInt8
def allS (nm : List UInt8) : List Fl → List UInt8 → Nat → List UInt8
  | [], acc, _ => acc
  | f :: l, acc, k => if f.n = nm then allS nm l (acc ++ (if k = 0 then [] else [44, 32]) ++ f.v) (k + 1) else allS nm l acc k
def allN (nm : List UInt8) (l : List Fl) : Nat := (l.filter fun f => f.n = nm).length
def allL (l : List Fl) (nm : List UInt8) : List UInt8 := allS nm l [] 0
def enS (l : List UInt8) : List Value := [.string (bs l)]
def enF (f : Fl) : List Value := [.string (bs f.n), .string (bs f.v)]
def L (s : ByteArray) : List UInt8 := s.data.toList
def trimS (s : ByteArray) : ByteArray := bs (trimL (L s))
def lowS (s : ByteArray) : ByteArray := bs (lowerL (L s))
def tokS (s : ByteArray) : Bool := tokL (L s)
def decS : List Value → List (List UInt8)
  | .string s :: r => L s :: decS r
  | _ => []
def decF : List Value → List Fl
  | .string s :: .string t :: r => ⟨L s, L t⟩ :: decF r
  | _ => []
def alV (r : Row) (s : ByteArray) : ByteArray := bs (allL (decF r.cells) (L s))
def alN (r : Row) (s : ByteArray) : Int := (allN (L s) (decF r.cells) : Nat)
def alB (r : Row) (s : ByteArray) : Nat := (allL (decF r.cells) (L s)).length
def okSp (l : List UInt8) : Bool := (splitL l).isSome
def elSp (l : List UInt8) : List (List UInt8) := (splitL l).getD []
def elS (s : ByteArray) : List (List UInt8) := elSp (L s)
def elN (s : ByteArray) : Nat := (elS s).length
def elC (s : ByteArray) : List Value := gC enS (elS s)
def okS (s : ByteArray) : Bool := okSp (L s)
def IsS (r : Row) (n : Nat) : Prop := ∃ l, r = gRo enS l ∧ n = l.length
def IsF (r : Row) (n : Nat) : Prop := ∃ l, r = gRo enF l ∧ n = l.length
theorem mixed : Try.prog.follows .mixedOrders = true := by kernel_rfl
theorem L_bs (l : List UInt8) : L (bs l) = l := rfl
theorem bs_d (l : List UInt8) : (bs l).data.toList = l := rfl
theorem bs_nil : ByteArray.mk #[] = bs [] := rfl
theorem bs_inj {a b : List UInt8} (h : bs a = bs b) : a = b := by have := congrArg L h; exact this
theorem bs_app (a b : List UInt8) : bs a ++ bs b = bs (a ++ b) := by
  apply ByteArray.ext
  simp [bs, ByteArray.data_append]
theorem byteAt_bs {l : List UInt8} {i : Nat} (h : i < l.length) : byteAt (bs l) i = (l[i].toNat : Int) := by
  unfold byteAt; rw [bs_d, List.getElem?_eq_getElem h]
theorem sub_bs (l : List UInt8) (a b : Nat) : sub (bs l) a b = bs ((l.drop a).take (b - a)) := rfl
theorem toList_bs (l : List UInt8) : (bs l).toList = l := by
  have : ∀ b : ByteArray, b.toList = b.data.toList := by intro b; exact ByteArray.toList_eq b
  rw [this, bs_d]
theorem strEq_bs (a b : List UInt8) : strEq (bs a) (bs b) = decide (a = b) := by
  unfold strEq; rw [toList_bs, toList_bs]
  by_cases h : a = b
  · simp [h]
  · simp [h]
theorem u8_b (c : UInt8) : Byt (c.toNat : Int) := ⟨by omega, by have := c.toNat_lt; omega⟩
theorem byt_nat {n : Int} (h : Byt n) : ∃ c : UInt8, n = c.toNat := ⟨UInt8.ofNat n.toNat, by rw [u8_toNat_ofNat (by unfold Byt at h; omega)]; unfold Byt at h; omega⟩
theorem u8_nat {c : UInt8} {n : Nat} (hn : n < 256) : (c.toNat : Int) = (n : Int) ↔ c = UInt8.ofNat n := by
  constructor
  · intro h
    have : c.toNat = n := by omega
    rw [← this, UInt8.ofNat_toNat]
  · rintro rfl; rw [u8_toNat_ofNat hn]
theorem set_getD (l : List UInt8) (i : Nat) (h : i < l.length) : l.set i (l.getD i 0) = l := by
  rw [List.getD_eq_getElem?_getD, List.getElem?_eq_getElem h]; exact List.set_getElem_self h
theorem trimS_bs (l : List UInt8) : trimS (bs l) = bs (trimL l) := rfl
theorem lowS_bs (l : List UInt8) : lowS (bs l) = bs (lowerL l) := rfl
theorem tokS_bs (l : List UInt8) : tokS (bs l) = tokL l := rfl
theorem bs_len (l : List UInt8) : (L (bs l)).length = l.length := rfl
theorem trimL_len (l : List UInt8) : (trimL l).length ≤ l.length := by
  unfold trimL trimB trimF
  rw [List.length_reverse]
  have h1 := (List.dropWhile_sublist spC (l := (l.dropWhile spC).reverse)).length_le
  have h2 := (List.dropWhile_sublist spC (l := l)).length_le
  rw [List.length_reverse] at h1
  omega
theorem spl_nil (q : Bool) (cur : List UInt8) : spl q cur [] = if q then none else some (addEl cur) := by rw [spl]
theorem spl_q (q : Bool) (cur r : List UInt8) (c : UInt8) (h : c = 34) : spl q cur (c :: r) = spl (!q) (cur ++ [c]) r := by cases r <;> (conv => lhs; rw [spl, if_pos h])
theorem spl_b (q : Bool) (cur r : List UInt8) (c d : UInt8) (h : c ≠ 34) (h2 : q = true ∧ c = 92) : spl q cur (c :: d :: r) = spl q (cur ++ [c, d]) r := by conv => lhs; rw [spl, if_neg h, if_pos h2]
theorem spl_b0 (q : Bool) (cur : List UInt8) (c : UInt8) (h : c ≠ 34) (h2 : q = true ∧ c = 92) : spl q cur [c] = none := by conv => lhs; rw [spl, if_neg h, if_pos h2]
theorem spl_c (q : Bool) (cur r : List UInt8) (c : UInt8) (h : c ≠ 34) (h2 : ¬ (q = true ∧ c = 92)) (h3 : q = false ∧ c = 44) : spl q cur (c :: r) = (spl q [] r).map fun l => addEl cur ++ l := by cases r <;> (conv => lhs; rw [spl, if_neg h, if_neg h2, if_pos h3])
theorem spl_o (q : Bool) (cur r : List UInt8) (c : UInt8) (h : c ≠ 34) (h2 : ¬ (q = true ∧ c = 92)) (h3 : ¬ (q = false ∧ c = 44)) : spl q cur (c :: r) = spl q (cur ++ [c]) r := by cases r <;> (conv => lhs; rw [spl, if_neg h, if_neg h2, if_neg h3])
theorem allS_len (nm : List UInt8) : ∀ (l : List Fl) (acc : List UInt8) (k : Nat), acc.length ≤ (allS nm l acc k).length
  | [], acc, k => Nat.le_refl _
  | f :: l, acc, k => by
    rw [allS]
    split
    · have := allS_len nm l (acc ++ (if k = 0 then [] else [44, 32]) ++ f.v) (k + 1)
      simp only [List.length_append] at this; omega
    · exact allS_len nm l acc k
theorem allN_cons (nm : List UInt8) (f : Fl) (l : List Fl) : allN nm (f :: l) = if f.n = nm then allN nm l + 1 else allN nm l := by
  unfold allN; rw [List.filter_cons]
  by_cases h : f.n = nm
  · simp [h]
  · simp [h]
theorem elN_bs (l : List UInt8) : elN (bs l) = (elSp l).length := rfl
theorem elC_bs (l : List UInt8) : elC (bs l) = gC enS (elSp l) := rfl
theorem okS_bs (l : List UInt8) : okS (bs l) = okSp l := rfl
theorem enS_k (a : List UInt8) : (enS a).length = 1 := rfl
theorem enF_k (a : Fl) : (enF a).length = 2 := rfl
theorem enS_p (a : List UInt8) : Plain (enS a) := by intro v hv; simp [enS] at hv; subst hv; rfl
theorem enF_p (a : Fl) : Plain (enF a) := by intro v hv; simp [enF] at hv; rcases hv with rfl | rfl <;> rfl
theorem sLen (l : List (List UInt8)) : (gC enS l).length = l.length := by have := gC_len enS_k l; omega
theorem fLen (l : List Fl) : (gC enF l).length = l.length * 2 := gC_len enF_k l
theorem sPl (l : List (List UInt8)) : Plain (gC enS l) := gC_plain enS_p l
theorem fPl (l : List Fl) : Plain (gC enF l) := gC_plain enF_p l
theorem cellS_of {l : List Value} {i : Nat} {s : ByteArray} (h : l[i]? = some (.string s)) : cellS l i = s := by unfold cellS; rw [h]
theorem sGet (l : List (List UInt8)) (i : Nat) (h : i < l.length) : (gC enS l)[i]? = some (.string (bs l[i])) ∧ cellS (gC enS l) i = bs l[i] := by
  have h1 := gC_get enS_k l i 0 h (by omega)
  rw [Nat.mul_one, Nat.add_zero] at h1
  exact ⟨h1, cellS_of h1⟩
theorem fGet (l : List Fl) (i : Nat) (h : i < l.length) : (gC enF l)[i * 2]? = some (.string (bs l[i].n)) ∧ (gC enF l)[i * 2 + 1]? = some (.string (bs l[i].v)) ∧ cellS (gC enF l) (i * 2) = bs l[i].n ∧ cellS (gC enF l) (i * 2 + 1) = bs l[i].v := by
  have h1 := gC_get enF_k l i 0 h (by omega)
  have h2 := gC_get enF_k l i 1 h (by omega)
  exact ⟨h1, h2, cellS_of h1, cellS_of h2⟩
theorem decS_gC : ∀ l, decS (gC enS l) = l
  | [] => rfl
  | a :: l => by rw [gC_cons]; show L (bs a) :: decS (gC enS l) = _; rw [decS_gC l, L_bs]
theorem decF_gC : ∀ l, decF (gC enF l) = l
  | [] => rfl
  | a :: l => by rw [gC_cons]; show ⟨L (bs a.n), L (bs a.v)⟩ :: decF (gC enF l) = _; rw [decF_gC l, L_bs, L_bs]
theorem sOne1 (l : List UInt8) : [Value.string (bs l)] = gC enS [l] := rfl
theorem sTake (l : List (List UInt8)) : (gC enS l).take l.length = gC enS l := List.take_of_length_le (by rw [sLen]; omega)
theorem fTake (l : List Fl) : (gC enF l).take (l.length * 2) = gC enF l := List.take_of_length_le (by rw [fLen]; omega)
theorem isS_mk (l : List (List UInt8)) (n : Nat) (h : n = l.length) : IsS ⟨gC enS l, true, .cells true⟩ n := ⟨l, rfl, h⟩
theorem isF_mk (l : List Fl) (n : Nat) (h : n = l.length) : IsF ⟨gC enF l, true, .cells true⟩ n := ⟨l, rfl, h⟩
theorem allTk_drop {l : List UInt8} {i : Nat} (h : i < l.length) : allTk (l.drop i) = (tokN l[i].toNat && allTk (l.drop (i + 1))) := by
  rw [List.drop_eq_getElem_cons h]; rfl
end Go.Proofs.Ytcjbpmphkmcmjaa.tk
