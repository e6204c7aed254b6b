/- Texts as lists of bytes; tokens, lists, quoted texts, pairs: what they come to. -/
import Derived.Test.YtkjppedfedaenaaGreatDoorSz9
import Derived.Test.YtkjppedfedaenaaGreatDoorRows
import Derived.Test.YtkjppedfedaenaaGreatDoorLgl
set_option maxRecDepth 20000
set_option linter.unusedSimpArgs false
set_option linter.unusedVariables false
namespace Go.Proofs.YtkjppedfedaenaaGreatDoor.tk
open Go Go.Ev Go.Sy Go.RowKit Go.Proofs.YtkjppedfedaenaaGreatDoor.gl
noncomputable abbrev E0 : Env := envN Tryz.prog
def bs (l : List UInt8) : ByteArray := ⟨l.toArray⟩
def tokN (n : Nat) : Bool := decide (97 ≤ n ∧ n ≤ 122 ∨ 65 ≤ n ∧ n ≤ 90 ∨ 48 ≤ n ∧ n ≤ 57) || [33, 35, 36, 37, 38, 39, 42, 43, 45, 46, 94, 95, 124, 126, 96].contains n
def ctlN (n : Nat) : Bool := decide (n < 32) && n != 9 || n == 127
def allTk (l : List UInt8) : Bool := l.all fun c => tokN c.toNat
def tokL (l : List UInt8) : Bool := allTk l && !l.isEmpty
def lowC (c : UInt8) : UInt8 := if 65 ≤ c.toNat ∧ c.toNat ≤ 90 then UInt8.ofNat (c.toNat + 32) else c
def lowerL (l : List UInt8) : List UInt8 := l.map lowC
def unq : List UInt8 → Option (List UInt8)
  | [] => some []
  | c :: r =>
    if c = 34 then none
    else if c = 92 then (match r with
      | [] => none
      | d :: r' => if ctlN d.toNat then none else (unq r').map (d :: ·))
    else if ctlN c.toNat then none else (unq r).map (c :: ·)
def unqL (l : List UInt8) : Option (List UInt8) :=
  if tokL l then some l
  else if l.length < 2 ∨ l.getD 0 0 ≠ 34 ∨ l.getD (l.length - 1) 0 ≠ 34 then none
  else unq ((l.drop 1).take (l.length - 2))
structure Pr where
  n : List UInt8
  v : List UInt8
  h : Bool
def ofL (l : List UInt8) : Option Pr :=
  if tokL l then some ⟨lowerL l, [], false⟩
  else if (61 : UInt8) ∈ l then
    (match unqL ((l.dropWhile (· != 61)).drop 1) with
    | none => none
    | some v => if tokL (l.takeWhile (· != 61)) then some ⟨lowerL (l.takeWhile (· != 61)), v, true⟩ else none)
  else none
structure Fl where
  n : List UInt8
  v : List UInt8
def enS (l : List UInt8) : List Value := [.string (bs l)]
def enF (f : Fl) : List Value := [.string (bs f.n), .string (bs f.v)]
def L (s : ByteArray) : List UInt8 := s.data.toList
def decF : List Value → List Fl
  | .string s :: .string t :: r => ⟨L s, L t⟩ :: decF r
  | _ => []
def IsF (r : Row) (n : Nat) : Prop := ∃ l, r = gRo enF l ∧ n = l.length
theorem mixed : Tryz.prog.follows .mixedOrders = true := by kernel_rfl
theorem L_bs (l : List UInt8) : L (bs l) = l := rfl
theorem bs_d (l : List UInt8) : (bs l).data.toList = l := rfl
theorem toList_bs (l : List UInt8) : (bs l).toList = l := by
  have : ∀ b : ByteArray, b.toList = b.data.toList := by intro b; exact ByteArray.toList_eq b
  rw [this, bs_d]
theorem strEq_bs (a b : List UInt8) : strEq (bs a) (bs b) = decide (a = b) := by
  unfold strEq; rw [toList_bs, toList_bs]
  by_cases h : a = b
  · simp [h]
  · simp [h]
theorem enS_k (a : List UInt8) : (enS a).length = 1 := rfl
theorem enF_k (a : Fl) : (enF a).length = 2 := rfl
theorem enF_p (a : Fl) : Plain (enF a) := by intro v hv; simp [enF] at hv; rcases hv with rfl | rfl <;> rfl
theorem sLen (l : List (List UInt8)) : (gC enS l).length = l.length := by have := gC_len enS_k l; omega
theorem fLen (l : List Fl) : (gC enF l).length = l.length * 2 := gC_len enF_k l
theorem fPl (l : List Fl) : Plain (gC enF l) := gC_plain enF_p l
theorem fOne (l : List Fl) : allOne (gC enF l) = true := gC_one (fun _ => rfl) l
theorem cellS_of {l : List Value} {i : Nat} {s : ByteArray} (h : l[i]? = some (.string s)) : cellS l i = s := by unfold cellS; rw [h]
theorem fGet (l : List Fl) (i : Nat) (h : i < l.length) : (gC enF l)[i * 2]? = some (.string (bs l[i].n)) ∧ (gC enF l)[i * 2 + 1]? = some (.string (bs l[i].v)) ∧ cellS (gC enF l) (i * 2) = bs l[i].n ∧ cellS (gC enF l) (i * 2 + 1) = bs l[i].v := by
  have h1 := gC_get enF_k l i 0 h (by omega)
  have h2 := gC_get enF_k l i 1 h (by omega)
  exact ⟨h1, h2, cellS_of h1, cellS_of h2⟩
theorem decF_gC : ∀ l, decF (gC enF l) = l
  | [] => rfl
  | a :: l => by rw [gC_cons]; show ⟨L (bs a.n), L (bs a.v)⟩ :: decF (gC enF l) = _; rw [decF_gC l, L_bs, L_bs]
theorem fTake (l : List Fl) : (gC enF l).take (l.length * 2) = gC enF l := List.take_of_length_le (by rw [fLen]; omega)
end Go.Proofs.YtkjppedfedaenaaGreatDoor.tk
