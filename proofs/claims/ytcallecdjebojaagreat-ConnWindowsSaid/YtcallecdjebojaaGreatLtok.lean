/- Texts as lists of bytes; tokens, lists, quoted texts, pairs: what they come to. -/
import Derived.Test.YtcallecdjebojaaGreatSz9
import Derived.Test.YtcallecdjebojaaGreatRows
import Derived.Test.YtcallecdjebojaaGreatLgl
set_option maxRecDepth 20000
set_option linter.unusedSimpArgs false
set_option linter.unusedVariables false
namespace Go.Proofs.YtcallecdjebojaaGreat.tk
open Go Go.Ev Go.Sy Go.RowKit Go.Proofs.YtcallecdjebojaaGreat.gl
noncomputable abbrev E0 : Env := envN Tryz.prog
def bs (l : List UInt8) : ByteArray := ⟨l.toArray⟩
def tokN (n : Nat) : Bool := decide (97 ≤ n ∧ n ≤ 122 ∨ 65 ≤ n ∧ n ≤ 90 ∨ 48 ≤ n ∧ n ≤ 57) || [33, 35, 36, 37, 38, 39, 42, 43, 45, 46, 94, 95, 124, 126, 96].contains n
def ctlN (n : Nat) : Bool := decide (n < 32) && n != 9 || n == 127
def allTk (l : List UInt8) : Bool := l.all fun c => tokN c.toNat
def tokL (l : List UInt8) : Bool := allTk l && !l.isEmpty
def lowC (c : UInt8) : UInt8 := if 65 ≤ c.toNat ∧ c.toNat ≤ 90 then UInt8.ofNat (c.toNat + 32) else c
def lowerL (l : List UInt8) : List UInt8 := l.map lowC
def unq : List UInt8 → Option (List UInt8)
  | [] => some []
  | c :: r =>
    if c = 34 then none
    else if c = 92 then (match r with
      | [] => none
      | d :: r' => if ctlN d.toNat then none else (unq r').map (d :: ·))
    else if ctlN c.toNat then none else (unq r).map (c :: ·)
def unqL (l : List UInt8) : Option (List UInt8) :=
  if tokL l then some l
  else if l.length < 2 ∨ l.getD 0 0 ≠ 34 ∨ l.getD (l.length - 1) 0 ≠ 34 then none
  else unq ((l.drop 1).take (l.length - 2))
structure Pr where
  n : List UInt8
  v : List UInt8
  h : Bool
def ofL (l : List UInt8) : Option Pr :=
  if tokL l then some ⟨lowerL l, [], false⟩
  else if (61 : UInt8) ∈ l then
    (match unqL ((l.dropWhile (· != 61)).drop 1) with
    | none => none
    | some v => if tokL (l.takeWhile (· != 61)) then some ⟨lowerL (l.takeWhile (· != 61)), v, true⟩ else none)
  else none
structure Fl where
  n : List UInt8
  v : List UInt8
def enS (l : List UInt8) : List Value := [.string (bs l)]
def L (s : ByteArray) : List UInt8 := s.data.toList
theorem mixed : Tryz.prog.follows .mixedOrders = true := by kernel_rfl
theorem bs_d (l : List UInt8) : (bs l).data.toList = l := rfl
theorem bs_nil : ByteArray.mk #[] = bs [] := rfl
theorem toList_bs (l : List UInt8) : (bs l).toList = l := by
  have : ∀ b : ByteArray, b.toList = b.data.toList := by intro b; exact ByteArray.toList_eq b
  rw [this, bs_d]
theorem strEq_bs (a b : List UInt8) : strEq (bs a) (bs b) = decide (a = b) := by
  unfold strEq; rw [toList_bs, toList_bs]
  by_cases h : a = b
  · simp [h]
  · simp [h]
theorem enS_k (a : List UInt8) : (enS a).length = 1 := rfl
theorem sLen (l : List (List UInt8)) : (gC enS l).length = l.length := by have := gC_len enS_k l; omega
end Go.Proofs.YtcallecdjebojaaGreat.tk
