/- The law: any number's field; any fields' bytes; they stay. -/
import Derived.Test.YtacbignkbpfdhaaSz9
import Derived.Test.YtacbignkbpfdhaaRows
import Derived.Test.YtacbignkbpfdhaaLfbook
import Derived.Test.YtacbignkbpfdhaaLbrt
import Derived.Test.YtacbignkbpfdhaaLbsx
set_option linter.unusedSimpArgs false
set_option linter.unusedVariables false
namespace Go.Proofs.Ytacbignkbpfdhaa.tk
open Go Go.Ev Go.Sy Go.RowKit Go.Proofs.Ytacbignkbpfdhaa.gl
def rmC (r : Row) (a b : ByteArray) : List Value := gC enF (decF r.cells ++ List.replicate 80 ⟨L a, L b⟩)
noncomputable def inB (r1 r2 : Row) (a b : ByteArray) : Bool := Go.Proofs.Ytacbignkbpfdhaa.fb.sameSe (decF r1.cells) (decF r2.cells ++ List.replicate 80 ⟨L a, L b⟩)
/-- What a closed call answers. -/
noncomputable def stR (k : Nat) : Option Value := ret? (Ev.run Try.prog 3000 7 [.int .i64 (Int.ofNat k)] ⟨.leaf, 0⟩)
noncomputable def stW (k : Nat) : Option Value := ret? (Ev.run Try.prog 3000 11 [.int .i64 (Int.ofNat k)] ⟨.leaf, 0⟩)
def twoS : Option Value → ByteArray × ByteArray
  | some (.tuple ⟨[.agg ⟨[.string a, .string b]⟩, .bool true]⟩) => (a, b)
  | _ => (⟨#[]⟩, ⟨#[]⟩)
noncomputable def okTwo (k : Nat) : Bool := match stR k, stW k with
  | some (.tuple ⟨[.agg ⟨[.string a, .string b]⟩, .bool true]⟩), some (.tuple ⟨[.agg ⟨[.string c, .string d]⟩, .bool true]⟩) => strEq a c && strEq b d
  | _, _ => false
noncomputable def okAll : Nat → Nat → Bool
  | 0, _ => true
  | n + 1, k => okTwo k && okAll n (k + 1)
def inR (i : Int) : Bool := decide (1 ≤ i ∧ i ≤ 61)
noncomputable def stA (i : Int) : ByteArray := if inR i then (twoS (stR i.toNat)).1 else ⟨#[]⟩
noncomputable def stB (i : Int) : ByteArray := if inR i then (twoS (stR i.toNat)).2 else ⟨#[]⟩
def fOn (f : Fl) : Nat := f.n.length + f.v.length + 32
def totF : List Fl → Nat
  | [] => 0
  | f :: l => fOn f + totF l
def totR (r : Row) : Int := (totF (decF r.cells) : Nat)
def TotOk (r : Row) : Prop := totF (decF r.cells) ≤ 4611686018427387904
noncomputable def eVd : EntM := entC 16 fun a r => match a, r with
  | [.int .i64 i], [] => some (False, .agg ⟨[.string ⟨#[]⟩, .string ⟨#[]⟩]⟩, [])
  | _, _ => none
noncomputable def eBr : EntM := entC 17 fun a r => match a, r with
  | [.int .i64 i], [] => some (False, .string ⟨#[]⟩, [])
  | _, _ => none
noncomputable def tCut : List EntM := [eVd, eBr]
noncomputable abbrev EtCut : Env := envT Try.prog tCut
def mCut := mOf [(11, [0, 1, 1, 1], fun _ _ _ _ => False)]
noncomputable def eSt1 : EntM := entC 7 fun a r => match a, r with
  | [.int .i64 i], [] => some (I64 i, .tuple #[.agg ⟨[.string (stA i), .string (stB i)]⟩, .bool (inR i)], [])
  | _, _ => none
noncomputable def eSt2 : EntM := entC 11 fun a r => match a, r with
  | [.int .i64 i], [] => some (I64 i, .tuple #[.agg ⟨[.string (stA i), .string (stB i)]⟩, .bool (inR i)], [])
  | _, _ => none
noncomputable def eSum : EntM := entC 10 fun a r => match a, r with
  | [.slice (some ⟨0, 0, none⟩) n 2], [r0] => some (IsF r0 n ∧ n ≤ maxLen ∧ TotOk r0, .int .i64 (totR r0), [])
  | _, _ => none
noncomputable def eRoom : EntM := entC 12 fun a r => match a, r with
  | [.slice (some ⟨0, 0, none⟩) n 2, .agg ⟨[.string a, .string b]⟩], [r0] => some (IsF r0 n ∧ n ≤ 16777000, .slice (some ⟨1, 0, none⟩) (n + 80) 2, [⟨rmC r0 a b, false, .cells true⟩])
  | _, _ => none
noncomputable def eInt : EntM := entC 14 fun a r => match a, r with
  | [.slice (some ⟨0, 0, none⟩) n 2, .slice (some ⟨1, 0, none⟩) m 2, .agg ⟨[.string a, .string b]⟩], [r0, r1] => some (IsF r0 n ∧ IsF r1 m ∧ n ≤ maxLen ∧ m ≤ 16777000, .bool (inB r0 r1 a b), [])
  | _, _ => none
noncomputable def eFdRuns : EntM := entC 3 fun a r => match a, r with
  | [], [] => some (True, .bool true, [])
  | _, _ => none
noncomputable def tFT : List EntM := [eSt1, eSt2, eSum, eRoom, eInt, eFdRuns]
noncomputable abbrev EtFT : Env := envT Try.prog tFT
def pSum : List Nat := [0, 1, 0, 1, 1]
structure StN where
  n : Nat
  i : Nat
def slSum (l : List Fl) (s : StN) : List (Nat × Value) := [(3, .int .i64 (s.n : Nat)), (6, .slice (some ⟨0, 0, none⟩) l.length 2), (7, .int .i64 (l.length : Nat)), (8, .int .i64 (s.i : Nat))]
def wsSum (l : List Fl) : List (Gate Unit) := [⟨.exit 0, fun _ => True, fun _ => [(3, .int .i64 (totF l : Nat))], fun _ => [(0, gRo enF l)], 1⟩]
def specSum : Sy.Spec := specOf 1 1 18 (fun l : List Fl => l.length ≤ maxLen ∧ totF l ≤ 4611686018427387904) (fun l => slSum l ⟨0, 0⟩) (fun l => [(0, gRo enF l)]) wsSum
def mSum := mOf [(10, pSum, specSum)]
structure GF where
  l : List Fl
  fa : ByteArray
  fb : ByteArray
  ga : ByteArray
  gb : ByteArray
  ok : Bool
  th : Bool
def wC (l : List Fl) : List Value := gC enF (l ++ List.replicate 80 ⟨[109], []⟩)
def pFT : List Nat := [0, 1, 0, 1, 1, 1, 1, 1]
def slFT0 (g : GF) (n : Nat) : List (Nat × Value) := [(1, .slice (some ⟨0, 0, none⟩) g.l.length 2), (5, .pointer (some ⟨1, 0, none⟩)), (6, .bool g.ok), (7, .pointer (some ⟨2, 0, none⟩)), (8, .bool g.th), (9, .slice (some ⟨3, 0, none⟩) (g.l.length + 80) 2), (10, .int .i64 (n : Nat))]
def slFT (g : GF) (s : StN) : List (Nat × Value) := slFT0 g s.n ++ [(11, .int .i64 (s.i : Nat))]
def rlFT (g : GF) : List (Nat × Row) := [(0, gRo enF g.l), (1, ⟨[.string g.fa, .string g.fb], false, .cells false⟩), (2, ⟨[.string g.ga, .string g.gb], false, .cells false⟩), (3, ⟨wC g.l, false, .cells true⟩)]
def wsFT (g : GF) : List (Gate Unit) := [⟨.exit 0, fun _ => True, fun _ => slFT0 g (totF g.l), fun _ => rlFT g, 4⟩]
def specFT : Sy.Spec := specOf 1 4 75 (fun g : GF => g.l.length ≤ 1048576 ∧ totF g.l ≤ 4611686018427387904) (fun g => slFT g ⟨0, 0⟩) rlFT wsFT
def mFT := mOf [(4, pFT, specFT)]
theorem St_out (i : Int) : mcall EtCut noM 60 7 [.int .i64 i] ⟨mkR (nums 0 []), 0⟩ (retIs 0 (.tuple #[.agg ⟨[.string ⟨#[]⟩, .string ⟨#[]⟩]⟩, .bool false]) []) =
  (br (decide (i < (1 : Int)))
   ((ByteArray.mk #[] = ByteArray.mk #[]) ∧
   ((ByteArray.mk #[] = ByteArray.mk #[]) ∧
   ((false = false) ∧
   True)))
   (br (decide (i > (61 : Int)))
    ((ByteArray.mk #[] = ByteArray.mk #[]) ∧
    ((ByteArray.mk #[] = ByteArray.mk #[]) ∧
    ((false = false) ∧
    True)))
    (br (decide (i ≤ (16 : Int)))
     ((((True ∧ True) ∧ (True ∧ (True ∧ False)))) ∧
     ((ByteArray.mk #[] = ByteArray.mk #[]) ∧
     ((ByteArray.mk #[] = ByteArray.mk #[]) ∧
     ((false = true) ∧
     True))))
     ((((True ∧ True) ∧ (True ∧ (True ∧ False)))) ∧
     ((ByteArray.mk #[] = ByteArray.mk #[]) ∧
     ((ByteArray.mk #[] = ByteArray.mk #[]) ∧
     ((false = true) ∧
     True))))))) := by kernel_rfl
theorem Sw_out (i : Int) : mcall E0 mCut 60 11 [.int .i64 i] ⟨mkR (nums 0 []), 0⟩ (retIs 0 (.tuple #[.agg ⟨[.string ⟨#[]⟩, .string ⟨#[]⟩]⟩, .bool false]) []) =
  (br (decide (i < (1 : Int)))
   ((ByteArray.mk #[] = ByteArray.mk #[]) ∧
   ((ByteArray.mk #[] = ByteArray.mk #[]) ∧
   ((false = false) ∧
   True)))
   (br (decide (i > (61 : Int)))
    ((ByteArray.mk #[] = ByteArray.mk #[]) ∧
    ((ByteArray.mk #[] = ByteArray.mk #[]) ∧
    ((false = false) ∧
    True)))
    False)) := by kernel_rfl
theorem sum_round (l : List Fl) (s : StN) (Inv : StN → Prop) (m : StN → Nat) : mev E0 noM 60 10 (0 :: pSum) false (codeOf Try.prog 10 (0 :: pSum)) ⟨mkOv (slSum l s), 18, []⟩ none ⟨mkR [(0, gRo enF l)], 1⟩ (roundK 1 1 18 Inv m (slSum l) (fun _ => [(0, gRo enF l)]) (wsSum l) s) =
  (br (decide ((↑s.2 : Int) < (↑(List.length l) : Int)))
   (br (decide ((0 : Int) ≤ (↑s.2 : Int) ∧ (↑s.2 : Int) < (↑(List.length l) : Int)))
    ((Eq (α := Option Value) ((gC enF l)[(0 : Nat) + Int.toNat (↑s.2 : Int) * (2 : Nat)]?) (some (Value.string (cellS (gC enF l) ((0 : Nat) + Int.toNat (↑s.2 : Int) * (2 : Nat)))))) ∧
    ((Eq (α := Option Value) ((gC enF l)[(0 : Nat) + Int.toNat (↑s.2 : Int) * (2 : Nat) + (1 : Nat)]?) (some (Value.string (cellS (gC enF l) ((0 : Nat) + Int.toNat (↑s.2 : Int) * (2 : Nat) + (1 : Nat)))))) ∧
    (∃ j : StN, ((Inv j) ∧
    ((m j < m s) ∧
    (((↑j.1 : Int) = IntKind.wrap IntKind.i64 ((↑s.1 : Int) + IntKind.wrap IntKind.i64 (IntKind.wrap IntKind.i64 (Int.ofNat (List.length (Array.toList (ByteArray.data (cellS (gC enF l) ((0 : Nat) + Int.toNat (↑s.2 : Int) * (2 : Nat)))))) + Int.ofNat (List.length (Array.toList (ByteArray.data (cellS (gC enF l) ((0 : Nat) + Int.toNat (↑s.2 : Int) * (2 : Nat) + (1 : Nat))))))) + (32 : Int)))) ∧
    (((0 : Nat) = (0 : Nat)) ∧
    ((List.length l = List.length l) ∧
    (((↑(List.length l) : Int) = (↑(List.length l) : Int)) ∧
    (((↑j.2 : Int) = IntKind.wrap IntKind.i64 ((↑s.2 : Int) + (1 : Int))) ∧
    ((Eq (α := List Value) (gC enF l) (gC enF l)) ∧
    ((Plain (gC enF l)) ∧
    True))))))))))))
    False)
   (∃ y : Unit, ((True) ∧
   (((↑(totF l) : Int) = (↑s.1 : Int)) ∧
   ((Eq (α := List Value) (gC enF l) (gC enF l)) ∧
   ((Plain (gC enF l)) ∧
   True)))))) := by kernel_rfl
theorem sum_vc (l : List Fl) (n : Int) : mcall E0 mSum 60 10 [.slice (some ⟨0, 0, none⟩) l.length 2] ⟨mkR (nums 0 [gRo enF l]), 1⟩ (retIs 1 (.int .i64 n) [gRo enF l]) =
  (∃ g : List Fl, ((List.length g ≤ (9223372036854775807 : Nat) ∧ totF g ≤ (4611686018427387904 : Nat)) ∧
  (((0 : Int) = (0 : Int)) ∧
  (((0 : Nat) = (0 : Nat)) ∧
  ((List.length g = List.length l) ∧
  (((↑(List.length g) : Int) = Int.ofNat (List.length l)) ∧
  (((0 : Int) = (0 : Int)) ∧
  ((Eq (α := List Value) (gC enF g) (gC enF l)) ∧
  ((Plain (gC enF g)) ∧
  (∀ (y : Unit), ((True) →
  ((n = (↑(totF g) : Int)) ∧
  ((Eq (α := List Value) (gC enF l) (gC enF g)) ∧
  ((Plain (gC enF l)) ∧
  True)))))))))))))) := by kernel_rfl
theorem FT_round (g : GF) (s : StN) (Inv : StN → Prop) (m : StN → Nat) : mev E0 noM 60 4 (0 :: pFT) false (codeOf Try.prog 4 (0 :: pFT)) ⟨mkOv (slFT g s), 75, []⟩ none ⟨mkR (rlFT g), 4⟩ (roundK 1 4 75 Inv m (slFT g) (fun _ => rlFT g) (wsFT g) s) =
  (br (decide ((↑s.2 : Int) < Int.ofNat (List.length g.1)))
   (br (decide ((0 : Int) ≤ (↑s.2 : Int) ∧ (↑s.2 : Int) < (↑(List.length g.1) : Int)))
    ((Eq (α := Option Value) ((gC enF g.1)[(0 : Nat) + Int.toNat (↑s.2 : Int) * (2 : Nat)]?) (some (Value.string (cellS (gC enF g.1) ((0 : Nat) + Int.toNat (↑s.2 : Int) * (2 : Nat)))))) ∧
    ((Eq (α := Option Value) ((gC enF g.1)[(0 : Nat) + Int.toNat (↑s.2 : Int) * (2 : Nat) + (1 : Nat)]?) (some (Value.string (cellS (gC enF g.1) ((0 : Nat) + Int.toNat (↑s.2 : Int) * (2 : Nat) + (1 : Nat)))))) ∧
    (br (decide ((0 : Int) ≤ (↑s.2 : Int) ∧ (↑s.2 : Int) < (↑(List.length g.1) : Int)))
     ((Eq (α := Option Value) ((gC enF g.1)[(0 : Nat) + Int.toNat (↑s.2 : Int) * (2 : Nat)]?) (some (Value.string (cellS (gC enF g.1) ((0 : Nat) + Int.toNat (↑s.2 : Int) * (2 : Nat)))))) ∧
     ((Eq (α := Option Value) ((gC enF g.1)[(0 : Nat) + Int.toNat (↑s.2 : Int) * (2 : Nat) + (1 : Nat)]?) (some (Value.string (cellS (gC enF g.1) ((0 : Nat) + Int.toNat (↑s.2 : Int) * (2 : Nat) + (1 : Nat)))))) ∧
     (br (decide ((0 : Int) ≤ (↑s.2 : Int) ∧ (↑s.2 : Int) < (↑(List.length g.1) : Int)))
      ((Eq (α := Option Value) ((gC enF g.1)[(0 : Nat) + Int.toNat (↑s.2 : Int) * (2 : Nat)]?) (some (Value.string (cellS (gC enF g.1) ((0 : Nat) + Int.toNat (↑s.2 : Int) * (2 : Nat)))))) ∧
      ((Eq (α := Option Value) ((gC enF g.1)[(0 : Nat) + Int.toNat (↑s.2 : Int) * (2 : Nat) + (1 : Nat)]?) (some (Value.string (cellS (gC enF g.1) ((0 : Nat) + Int.toNat (↑s.2 : Int) * (2 : Nat) + (1 : Nat)))))) ∧
      ((Eq (α := Option Value) ((gC enF g.1)[(0 : Nat) + Int.toNat (↑s.2 : Int) * (2 : Nat)]?) (some (Value.string (cellS (gC enF g.1) ((0 : Nat) + Int.toNat (↑s.2 : Int) * (2 : Nat)))))) ∧
      ((Eq (α := Option Value) ((gC enF g.1)[(0 : Nat) + Int.toNat (↑s.2 : Int) * (2 : Nat) + (1 : Nat)]?) (some (Value.string (cellS (gC enF g.1) ((0 : Nat) + Int.toNat (↑s.2 : Int) * (2 : Nat) + (1 : Nat)))))) ∧
      ((Value.agg (Array.mk [Value.string (cellS (gC enF g.1) ((0 : Nat) + Int.toNat (↑s.2 : Int) * (2 : Nat))), Value.string (cellS (gC enF g.1) ((0 : Nat) + Int.toNat (↑s.2 : Int) * (2 : Nat) + (1 : Nat)))]) = Value.agg (Array.mk [Value.string (cellS (gC enF g.1) ((0 : Nat) + Int.toNat (↑s.2 : Int) * (2 : Nat))), Value.string (cellS (gC enF g.1) ((0 : Nat) + Int.toNat (↑s.2 : Int) * (2 : Nat) + (1 : Nat)))])) ∧
      ((Eq (α := Option Value) ((gC enF g.1)[(0 : Nat) + Int.toNat (↑s.2 : Int) * (2 : Nat)]?) (some (Value.string (cellS (gC enF g.1) ((0 : Nat) + Int.toNat (↑s.2 : Int) * (2 : Nat)))))) ∧
      ((Eq (α := Option Value) ((gC enF g.1)[(0 : Nat) + Int.toNat (↑s.2 : Int) * (2 : Nat) + (1 : Nat)]?) (some (Value.string (cellS (gC enF g.1) ((0 : Nat) + Int.toNat (↑s.2 : Int) * (2 : Nat) + (1 : Nat)))))) ∧
      ((Value.agg (Array.mk [Value.string (cellS (gC enF g.1) ((0 : Nat) + Int.toNat (↑s.2 : Int) * (2 : Nat))), Value.string (cellS (gC enF g.1) ((0 : Nat) + Int.toNat (↑s.2 : Int) * (2 : Nat) + (1 : Nat)))]) = Value.agg (Array.mk [Value.string (cellS (gC enF g.1) ((0 : Nat) + Int.toNat (↑s.2 : Int) * (2 : Nat))), Value.string (cellS (gC enF g.1) ((0 : Nat) + Int.toNat (↑s.2 : Int) * (2 : Nat) + (1 : Nat)))])) ∧
      ((Eq (α := Option Value) ((gC enF g.1)[(0 : Nat) + Int.toNat (↑s.2 : Int) * (2 : Nat)]?) (some (Value.string (cellS (gC enF g.1) ((0 : Nat) + Int.toNat (↑s.2 : Int) * (2 : Nat)))))) ∧
      ((Eq (α := Option Value) ((gC enF g.1)[(0 : Nat) + Int.toNat (↑s.2 : Int) * (2 : Nat) + (1 : Nat)]?) (some (Value.string (cellS (gC enF g.1) ((0 : Nat) + Int.toNat (↑s.2 : Int) * (2 : Nat) + (1 : Nat)))))) ∧
      ((Value.agg (Array.mk [Value.string (cellS (gC enF g.1) ((0 : Nat) + Int.toNat (↑s.2 : Int) * (2 : Nat))), Value.string (cellS (gC enF g.1) ((0 : Nat) + Int.toNat (↑s.2 : Int) * (2 : Nat) + (1 : Nat)))]) = Value.agg (Array.mk [Value.string (cellS (gC enF g.1) ((0 : Nat) + Int.toNat (↑s.2 : Int) * (2 : Nat))), Value.string (cellS (gC enF g.1) ((0 : Nat) + Int.toNat (↑s.2 : Int) * (2 : Nat) + (1 : Nat)))])) ∧
      (br (IntKind.wrap IntKind.i64 (IntKind.wrap IntKind.i64 (Int.ofNat (List.length (Array.toList (ByteArray.data (cellS (gC enF g.1) ((0 : Nat) + Int.toNat (↑s.2 : Int) * (2 : Nat)))))) + Int.ofNat (List.length (Array.toList (ByteArray.data (cellS (gC enF g.1) ((0 : Nat) + Int.toNat (↑s.2 : Int) * (2 : Nat) + (1 : Nat))))))) + (32 : Int)) != IntKind.wrap IntKind.i64 (IntKind.wrap IntKind.i64 (Int.ofNat (List.length (Array.toList (ByteArray.data (cellS (gC enF g.1) ((0 : Nat) + Int.toNat (↑s.2 : Int) * (2 : Nat)))))) + Int.ofNat (List.length (Array.toList (ByteArray.data (cellS (gC enF g.1) ((0 : Nat) + Int.toNat (↑s.2 : Int) * (2 : Nat) + (1 : Nat))))))) + (32 : Int)))
       False
       (∃ j : StN, ((Inv j) ∧
       ((m j < m s) ∧
       (((0 : Nat) = (0 : Nat)) ∧
       ((List.length g.1 = List.length g.1) ∧
       (((0 : Nat) = (0 : Nat)) ∧
       ((g.6 = g.6) ∧
       (((0 : Nat) = (0 : Nat)) ∧
       ((g.7 = g.7) ∧
       (((0 : Nat) = (0 : Nat)) ∧
       ((List.length g.1 + (80 : Nat) = List.length g.1 + (80 : Nat)) ∧
       (((↑j.1 : Int) = IntKind.wrap IntKind.i64 ((↑s.1 : Int) + IntKind.wrap IntKind.i64 (IntKind.wrap IntKind.i64 (Int.ofNat (List.length (Array.toList (ByteArray.data (cellS (gC enF g.1) ((0 : Nat) + Int.toNat (↑s.2 : Int) * (2 : Nat)))))) + Int.ofNat (List.length (Array.toList (ByteArray.data (cellS (gC enF g.1) ((0 : Nat) + Int.toNat (↑s.2 : Int) * (2 : Nat) + (1 : Nat))))))) + (32 : Int)))) ∧
       (((↑j.2 : Int) = IntKind.wrap IntKind.i64 ((↑s.2 : Int) + (1 : Int))) ∧
       ((Eq (α := List Value) (gC enF g.1) (gC enF g.1)) ∧
       ((Plain (gC enF g.1)) ∧
       ((g.2 = g.2) ∧
       ((g.3 = g.3) ∧
       ((g.4 = g.4) ∧
       ((g.5 = g.5) ∧
       ((Eq (α := List Value) (wC g.1) (wC g.1)) ∧
       ((Plain (wC g.1)) ∧
       True)))))))))))))))))))))))))))))))))
      False)))
     False)))
    False)
   (∃ y : Unit, ((True) ∧
   (((0 : Nat) = (0 : Nat)) ∧
   ((List.length g.1 = List.length g.1) ∧
   (((0 : Nat) = (0 : Nat)) ∧
   ((g.6 = g.6) ∧
   (((0 : Nat) = (0 : Nat)) ∧
   ((g.7 = g.7) ∧
   (((0 : Nat) = (0 : Nat)) ∧
   ((List.length g.1 + (80 : Nat) = List.length g.1 + (80 : Nat)) ∧
   (((↑(totF g.1) : Int) = (↑s.1 : Int)) ∧
   ((Eq (α := List Value) (gC enF g.1) (gC enF g.1)) ∧
   ((Plain (gC enF g.1)) ∧
   ((g.2 = g.2) ∧
   ((g.3 = g.3) ∧
   ((g.4 = g.4) ∧
   ((g.5 = g.5) ∧
   ((Eq (α := List Value) (wC g.1) (wC g.1)) ∧
   ((Plain (wC g.1)) ∧
   True)))))))))))))))))))) := by kernel_rfl
theorem FT_vc (i : Int) (l : List Fl) : mcall EtFT mFT 60 4 [.int .i64 i, .slice (some ⟨0, 0, none⟩) l.length 2] ⟨mkR (nums 0 [gRo enF l]), 1⟩ (retIs 1 (.bool true) [gRo enF l]) =
  ((((True ∧ True) ∧ (True ∧ (True ∧ I64 i)))) ∧
  ((((True ∧ True) ∧ (True ∧ (True ∧ I64 i)))) ∧
  ((((((0 : Nat) + List.length l * (2 : Nat) ≤ List.length (gC enF l) ∧ Plain (List.take (List.length l * (2 : Nat)) (List.drop (0 : Nat) (gC enF l)))) ∧ ((True ∧ (True ∧ True)) ∧ True)) ∧ ((True ∧ True) ∧ ((Plain (rmC (Row.mk (List.take (List.length l * (2 : Nat)) (List.drop (0 : Nat) (gC enF l))) true (Ob.cells true)) (ByteArray.mk #[(109 : UInt8)]) (ByteArray.mk #[])) ∧ True) ∧ (IsF (Row.mk (List.take (List.length l * (2 : Nat)) (List.drop (0 : Nat) (gC enF l))) true (Ob.cells true)) (List.length l) ∧ List.length l ≤ (16777000 : Nat)))))) ∧
  (∃ g : GF, ((List.length g.1 ≤ (1048576 : Nat) ∧ totF g.1 ≤ (4611686018427387904 : Nat)) ∧
  (((0 : Nat) = (0 : Nat)) ∧
  ((List.length g.1 = List.length l) ∧
  (((0 : Nat) = (0 : Nat)) ∧
  ((g.6 = inR i) ∧
  (((0 : Nat) = (0 : Nat)) ∧
  ((g.7 = inR i) ∧
  (((0 : Nat) = (0 : Nat)) ∧
  ((List.length g.1 + (80 : Nat) = List.length l + (80 : Nat)) ∧
  (((0 : Int) = (0 : Int)) ∧
  (((0 : Int) = (0 : Int)) ∧
  ((Eq (α := List Value) (gC enF g.1) (gC enF l)) ∧
  ((Plain (gC enF g.1)) ∧
  ((g.2 = stA i) ∧
  ((g.3 = stB i) ∧
  ((g.4 = stA i) ∧
  ((g.5 = stB i) ∧
  ((Eq (α := List Value) (wC g.1) (rmC (Row.mk (List.take (List.length l * (2 : Nat)) (List.drop (0 : Nat) (gC enF l))) true (Ob.cells true)) (ByteArray.mk #[(109 : UInt8)]) (ByteArray.mk #[]))) ∧
  ((Plain (wC g.1)) ∧
  (∀ (y : Unit), ((True) →
  (br (g.2 == g.4 && (g.3 == g.5 && true))
   (br (g.6 == g.7)
    (br (decide ((0 : Int) ≤ (↑(0 : Nat) : Int) ∧ (0 : Int) ≤ Int.ofNat (List.length g.1) ∧ Int.ofNat (List.length g.1) ≤ (↑(List.length g.1 + (80 : Nat)) : Int)))
     ((((((0 : Nat) + (Int.toNat (Int.ofNat (List.length g.1)) - (0 : Nat)) * (2 : Nat) ≤ List.length (wC g.1) ∧ Plain (List.take ((Int.toNat (Int.ofNat (List.length g.1)) - (0 : Nat)) * (2 : Nat)) (List.drop (0 : Nat) (wC g.1)))) ∧ True) ∧ ((True ∧ True) ∧ (True ∧ (IsF (Row.mk (List.take ((Int.toNat (Int.ofNat (List.length g.1)) - (0 : Nat)) * (2 : Nat)) (List.drop (0 : Nat) (wC g.1))) true (Ob.cells true)) (Int.toNat (Int.ofNat (List.length g.1)) - (0 : Nat)) ∧ (Int.toNat (Int.ofNat (List.length g.1)) - (0 : Nat) ≤ (9223372036854775807 : Nat) ∧ TotOk (Row.mk (List.take ((Int.toNat (Int.ofNat (List.length g.1)) - (0 : Nat)) * (2 : Nat)) (List.drop (0 : Nat) (wC g.1))) true (Ob.cells true)))))))) ∧
     (br (totR (Row.mk (List.take ((Int.toNat (Int.ofNat (List.length g.1)) - (0 : Nat)) * (2 : Nat)) (List.drop (0 : Nat) (wC g.1))) true (Ob.cells true)) == (↑(totF g.1) : Int))
      ((((((0 : Nat) + (List.length g.1 + (80 : Nat)) * (2 : Nat) ≤ List.length (wC g.1) ∧ Plain (List.take ((List.length g.1 + (80 : Nat)) * (2 : Nat)) (List.drop (0 : Nat) (wC g.1)))) ∧ (((0 : Nat) + List.length g.1 * (2 : Nat) ≤ List.length (gC enF g.1) ∧ Plain (List.take (List.length g.1 * (2 : Nat)) (List.drop (0 : Nat) (gC enF g.1)))) ∧ ((True ∧ (True ∧ True)) ∧ True))) ∧ ((True ∧ (True ∧ True)) ∧ (True ∧ (IsF (Row.mk (List.take ((List.length g.1 + (80 : Nat)) * (2 : Nat)) (List.drop (0 : Nat) (wC g.1))) true (Ob.cells true)) (List.length g.1 + (80 : Nat)) ∧ (IsF (Row.mk (List.take (List.length g.1 * (2 : Nat)) (List.drop (0 : Nat) (gC enF g.1))) true (Ob.cells true)) (List.length g.1) ∧ (List.length g.1 + (80 : Nat) ≤ (9223372036854775807 : Nat) ∧ List.length g.1 ≤ (16777000 : Nat)))))))) ∧
      (br (inB (Row.mk (List.take ((List.length g.1 + (80 : Nat)) * (2 : Nat)) (List.drop (0 : Nat) (wC g.1))) true (Ob.cells true)) (Row.mk (List.take (List.length g.1 * (2 : Nat)) (List.drop (0 : Nat) (gC enF g.1))) true (Ob.cells true)) (ByteArray.mk #[(109 : UInt8)]) (ByteArray.mk #[]))
       (((True ∧ (True ∧ (True ∧ True)))) ∧
       ((true = true) ∧
       ((Eq (α := List Value) (gC enF l) (gC enF g.1)) ∧
       ((Plain (gC enF l)) ∧
       True))))
       ((true = false) ∧
       ((Eq (α := List Value) (gC enF l) (gC enF g.1)) ∧
       ((Plain (gC enF l)) ∧
       True)))))
      ((true = false) ∧
      ((Eq (α := List Value) (gC enF l) (gC enF g.1)) ∧
      ((Plain (gC enF l)) ∧
      True)))))
     False)
    ((true = false) ∧
    ((Eq (α := List Value) (gC enF l) (gC enF g.1)) ∧
    ((Plain (gC enF l)) ∧
    True))))
   ((true = false) ∧
   ((Eq (α := List Value) (gC enF l) (gC enF g.1)) ∧
   ((Plain (gC enF l)) ∧
   True))))))))))))))))))))))))))))) := by kernel_rfl
theorem eVd_ok : EntOk Try.prog eVd := entC_ok (by
  intro a rows p v news h hp
  split at h <;> simp only [Option.some.injEq, Prod.mk.injEq, reduceCtorEq] at h
  obtain ⟨rfl, rfl, rfl⟩ := h
  exact hp.elim)
theorem eBr_ok : EntOk Try.prog eBr := entC_ok (by
  intro a rows p v news h hp
  split at h <;> simp only [Option.some.injEq, Prod.mk.injEq, reduceCtorEq] at h
  obtain ⟨rfl, rfl, rfl⟩ := h
  exact hp.elim)
theorem tCut_ok : ∀ x ∈ tCut, EntOk Try.prog x := all_cons eVd_ok (all_cons eBr_ok (all_nil))
theorem cut_piece : PieceOk E0 0 (11, [0, 1, 1, 1], fun _ _ _ _ => False) := fun _ _ _ _ _ _ _ _ _ _ h => h.elim
theorem all16 : okAll 16 1 = true := by kernel_rfl
theorem all32 : okAll 16 17 = true := by kernel_rfl
theorem all48 : okAll 16 33 = true := by kernel_rfl
theorem all61 : okAll 13 49 = true := by kernel_rfl
theorem okAll_at : ∀ (n k : Nat), okAll n k = true → ∀ j, k ≤ j → j < k + n → okTwo j = true
  | 0, k, _, j, h1, h2 => by omega
  | n + 1, k, h, j, h1, h2 => by
    simp only [okAll, Bool.and_eq_true] at h
    by_cases e : j = k
    · subst e; exact h.1
    · exact okAll_at n (k + 1) h.2 j (by omega) (by omega)
theorem okTwo_in (j : Nat) (h1 : 1 ≤ j) (h2 : j ≤ 61) : okTwo j = true := by
  rcases Nat.lt_or_ge j 17 with h | h
  · exact okAll_at _ _ all16 j h1 h
  · rcases Nat.lt_or_ge j 33 with h | h
    · exact okAll_at _ _ all32 j (by omega) h
    · rcases Nat.lt_or_ge j 49 with h | h
      · exact okAll_at _ _ all48 j (by omega) h
      · exact okAll_at _ _ all61 j (by omega) (by omega)
theorem strEq_eq {a b : ByteArray} (h : strEq a b = true) : a = b := by
  have := strEq_bs (L a) (L b)
  rw [bsL, bsL] at this
  rw [this] at h
  have e : L a = L b := of_decide_eq_true h
  have := congrArg bs e
  rwa [bsL, bsL] at this
theorem okTwo_val {j : Nat} (h : okTwo j = true) : ∃ a b, twoS (stR j) = (a, b) ∧ stR j = some (.tuple ⟨[.agg ⟨[.string a, .string b]⟩, .bool true]⟩) ∧ stW j = some (.tuple ⟨[.agg ⟨[.string a, .string b]⟩, .bool true]⟩) := by
  unfold okTwo at h
  split at h
  · rename_i a b c d h1 h2
    simp only [Bool.and_eq_true] at h
    have e1 := strEq_eq h.1
    have e2 := strEq_eq h.2
    subst e1; subst e2
    exact ⟨a, b, by rw [h1]; rfl, h1, h2⟩
  · simp at h
theorem ok_f1 : okFn Try.prog 7 = true := by kernel_rfl
theorem ok_f2 : okFn Try.prog 11 = true := by kernel_rfl
theorem St_con (i : Int) (hi : I64 i) : Con Try.prog 7 [.int .i64 i] [] (.tuple #[.agg ⟨[.string (stA i), .string (stB i)]⟩, .bool (inR i)]) [] := by
  by_cases h : 1 ≤ i ∧ i ≤ 61
  · have hr : inR i = true := decide_eq_true h
    obtain ⟨j, rfl⟩ : ∃ j : Nat, i = j := ⟨i.toNat, by omega⟩
    obtain ⟨a, b, h1, h2, h3⟩ := okTwo_val (okTwo_in j (by omega) (by omega))
    unfold stA stB
    simp only [hr, if_true, Int.toNat_natCast, h1]
    exact con_flat rfl rfl fun w => run_closed mixed ok_f1 (args := [.int .i64 (Int.ofNat j)]) rfl rfl h2 w
  · have hr : inR i = false := decide_eq_false h
    unfold stA stB
    simp only [hr, Bool.false_eq_true, if_false]
    refine con_vc (E := EtCut) mixed (calls_envT tCut_ok) (lok_envT _ _) (M := noM) lm_none (St_out i) ?_
    simp only [ofNat_eq, toNat_cast, Nat.zero_add, Nat.add_zero, Nat.mul_one, List.drop_zero, bCells_len, bCells_drop, bCells_take, bCells_app, bCells_one, bCells_plain, List.length_replicate, List.length_append, List.length_take, List.length_drop, List.take_length, and_true, true_and, and_self, decide_true, List.length_nil, List.length_cons, Nat.sub_zero, dB_mk, dB_ro, List.take_zero]
    refine br_if (fun _ => trivial) (fun h1 => br_if (fun _ => trivial) (fun h2 => ?_))
    exact absurd ⟨by omega, by omega⟩ h
theorem Sw_con (i : Int) (hi : I64 i) : Con Try.prog 11 [.int .i64 i] [] (.tuple #[.agg ⟨[.string (stA i), .string (stB i)]⟩, .bool (inR i)]) [] := by
  by_cases h : 1 ≤ i ∧ i ≤ 61
  · have hr : inR i = true := decide_eq_true h
    obtain ⟨j, rfl⟩ : ∃ j : Nat, i = j := ⟨i.toNat, by omega⟩
    obtain ⟨a, b, h1, h2, h3⟩ := okTwo_val (okTwo_in j (by omega) (by omega))
    unfold stA stB
    simp only [hr, if_true, Int.toNat_natCast, h1]
    exact con_flat rfl rfl fun w => run_closed mixed ok_f2 (args := [.int .i64 (Int.ofNat j)]) rfl rfl h3 w
  · have hr : inR i = false := decide_eq_false h
    unfold stA stB
    simp only [hr, Bool.false_eq_true, if_false]
    refine con_vc (E := E0) mixed (calls_envN _) (lok_envN _) (M := mCut) (lm_one cut_piece) (Sw_out i) ?_
    simp only [ofNat_eq, toNat_cast, Nat.zero_add, Nat.add_zero, Nat.mul_one, List.drop_zero, bCells_len, bCells_drop, bCells_take, bCells_app, bCells_one, bCells_plain, List.length_replicate, List.length_append, List.length_take, List.length_drop, List.take_length, and_true, true_and, and_self, decide_true, List.length_nil, List.length_cons, Nat.sub_zero, dB_mk, dB_ro, List.take_zero]
    refine br_if (fun _ => trivial) (fun h1 => br_if (fun _ => trivial) (fun h2 => ?_))
    exact absurd ⟨by omega, by omega⟩ h
theorem totF_drop (l : List Fl) (i : Nat) (h : i < l.length) : totF (l.drop i) = fOn l[i] + totF (l.drop (i + 1)) := by rw [List.drop_eq_getElem_cons h, totF]
theorem totF_le (l : List Fl) (hs : ∀ f ∈ l, f.n.length ≤ 1048576 ∧ f.v.length ≤ 1048576) : totF l ≤ l.length * 2097184 := by
  induction l with
  | nil => exact Nat.le_refl _
  | cons f l ih =>
    have := ih fun g hg => hs g (by simp [hg])
    have h := hs f (by simp)
    rw [totF, List.length_cons]; unfold fOn; omega
theorem sum_piece : PieceOk E0 1 (10, pSum, specSum) := by
  refine piece_loop mixed (calls_envN _) (lok_envN _) lm_none (n := 60) (by kernel_rfl) (fun _ : List Fl => (⟨0, 0⟩ : StN)) (fun l s => s.i ≤ l.length ∧ s.n + totF (l.drop s.i) = totF l) (fun l s => l.length - s.i) (sl := slSum) (rl := fun l _ => [(0, gRo enF l)]) (fun l hg => ⟨Nat.zero_le _, by simp⟩) (fun l s hg hi => ?_)
  refine (sum_round l s _ _).mpr ?_
  obtain ⟨n, i⟩ := s
  obtain ⟨h1, h2⟩ := hi
  have hm : maxLen = 9223372036854775807 := by unfold maxLen; rfl
  obtain ⟨g1, g2⟩ := hg
  simp only at h1 h2
  simp only [ofNat_eq, toNat_cast, Nat.zero_add, Nat.add_zero, Nat.mul_one, List.drop_zero, bCells_len, bCells_drop, bCells_take, bCells_app, bCells_one, bCells_plain, List.length_replicate, List.length_append, List.length_take, List.length_drop, List.take_length, and_true, true_and, and_self, decide_true, List.length_nil, List.length_cons, Nat.sub_zero, dB_mk, dB_ro, List.take_zero, fPl, fLen, fTake]
  refine br_if (fun h => br_dec (by omega) ?_) (fun h => ⟨(), ?_⟩)
  rotate_left
  · rw [List.drop_eq_nil_of_le (by omega)] at h2; simp only [totF] at h2; omega
  have hi : i < l.length := by omega
  obtain ⟨c1, c2, c3, c4⟩ := fGet l i hi
  have w := i64_succ (show i < 9223372036854775807 by omega)
  rw [totF_drop l i hi] at h2
  unfold fOn at h2
  simp only [c1, c2, c3, c4, w, true_and, bs_dd]
  rw [wr64_id (n := (l[i].n.length : Int) + (l[i].v.length : Int)) (by unfold I64; omega), wr64_id (n := (l[i].n.length : Int) + (l[i].v.length : Int) + 32) (by unfold I64; omega), wr64_id (by unfold I64; omega)]
  exact ⟨⟨n + (l[i].n.length + l[i].v.length + 32), i + 1⟩, ⟨by simp only; omega, by simp only; omega⟩, by simp only; omega, by simp only; omega, rfl⟩
theorem sum_con (l : List Fl) (hl : l.length ≤ maxLen) (ht : totF l ≤ 4611686018427387904) : Con Try.prog 10 [.slice (some ⟨0, 0, none⟩) l.length 2] [gRo enF l] (.int .i64 (totF l : Nat)) [gRo enF l] := by
  refine con_vc (E := E0) mixed (calls_envN _) (lok_envN _) (M := mSum) (lm_one sum_piece) (sum_vc l _) ?_
  simp only [ofNat_eq, toNat_cast, Nat.zero_add, Nat.add_zero, Nat.mul_one, List.drop_zero, bCells_len, bCells_drop, bCells_take, bCells_app, bCells_one, bCells_plain, List.length_replicate, List.length_append, List.length_take, List.length_drop, List.take_length, and_true, true_and, and_self, decide_true, List.length_nil, List.length_cons, Nat.sub_zero, dB_mk, dB_ro, List.take_zero, fPl, fLen, fTake]
  have hm : maxLen = 9223372036854775807 := by unfold maxLen; rfl
  exact ⟨l, ⟨by omega, ht⟩, rfl, rfl, rfl, fun _ _ => ⟨rfl, rfl⟩⟩
theorem n_rmC (l : List Fl) (b : Bool) (o : Ob) (x y : ByteArray) : rmC ⟨gC enF l, b, o⟩ x y = gC enF (l ++ List.replicate 80 ⟨L x, L y⟩) := by unfold rmC; simp only; rw [decF_gC]
theorem n_in (l m : List Fl) (b c : Bool) (o p : Ob) (x y : ByteArray) : inB ⟨gC enF l, b, o⟩ ⟨gC enF m, c, p⟩ x y = Go.Proofs.Ytacbignkbpfdhaa.fb.sameSe l (m ++ List.replicate 80 ⟨L x, L y⟩) := by unfold inB; simp only; rw [decF_gC, decF_gC]
theorem n_tot (l : List Fl) (b : Bool) (o : Ob) : totR ⟨gC enF l, b, o⟩ = (totF l : Nat) := by unfold totR; simp only; rw [decF_gC]
theorem n_tok (l : List Fl) (b : Bool) (o : Ob) : TotOk ⟨gC enF l, b, o⟩ = (totF l ≤ 4611686018427387904) := by unfold TotOk; simp only; rw [decF_gC]
theorem wC_len (l : List Fl) : (wC l).length = (l.length + 80) * 2 := by unfold wC; rw [fLen]; simp
theorem wC_tk (l : List Fl) : List.take (l.length * 2) (wC l) = gC enF l := tkF l _
theorem wC_tk2 (l : List Fl) : List.take ((l.length + 80) * 2) (wC l) = wC l := List.take_of_length_le (by rw [wC_len]; omega)
theorem wC_isF (l : List Fl) : IsF ⟨wC l, true, .cells true⟩ (l.length + 80) := isF_mk _ _ (by simp)
theorem wC_pl (l : List Fl) : Plain (wC l) := fPl _
theorem wC_in (l : List Fl) (b c : Bool) (o p : Ob) : inB ⟨wC l, b, o⟩ ⟨gC enF l, c, p⟩ ⟨#[109]⟩ ⟨#[]⟩ = true := by
  unfold wC; rw [n_in]; exact Go.Proofs.Ytacbignkbpfdhaa.fb.sameSe_yes rfl
theorem FT_piece : PieceOk E0 1 (4, pFT, specFT) := by
  refine piece_loop mixed (calls_envN _) (lok_envN _) lm_none (n := 60) (by kernel_rfl) (fun _ : GF => (⟨0, 0⟩ : StN)) (fun g s => s.i ≤ g.l.length ∧ s.n + totF (g.l.drop s.i) = totF g.l) (fun g s => g.l.length - s.i) (sl := slFT) (rl := fun g _ => rlFT g) (fun g hg => ⟨Nat.zero_le _, by simp⟩) (fun g s hg hi => ?_)
  refine (FT_round g s _ _).mpr ?_
  obtain ⟨n, i⟩ := s
  obtain ⟨h1, h2⟩ := hi
  obtain ⟨g1, g2⟩ := hg
  simp only at h1 h2
  simp only [ofNat_eq, toNat_cast, Nat.zero_add, Nat.add_zero, Nat.mul_one, List.drop_zero, bCells_len, bCells_drop, bCells_take, bCells_app, bCells_one, bCells_plain, List.length_replicate, List.length_append, List.length_take, List.length_drop, List.take_length, and_true, true_and, and_self, decide_true, List.length_nil, List.length_cons, Nat.sub_zero, dB_mk, dB_ro, List.take_zero, fPl, fLen, fTake]
  refine br_if (fun h => br_dec (by omega) ?_) (fun h => ⟨(), ?_, wC_pl _⟩)
  rotate_left
  · rw [List.drop_eq_nil_of_le (by omega)] at h2; simp only [totF] at h2; omega
  have hi : i < g.l.length := by omega
  obtain ⟨c1, c2, c3, c4⟩ := fGet g.l i hi
  have w := i64_succ (show i < 9223372036854775807 by omega)
  rw [totF_drop g.l i hi] at h2
  unfold fOn at h2
  simp only [c1, c2, c3, c4, w, true_and, bs_dd, bne_self_eq_false, br_ff0]
  rw [wr64_id (n := (g.l[i].n.length : Int) + (g.l[i].v.length : Int)) (by unfold I64; omega), wr64_id (n := (g.l[i].n.length : Int) + (g.l[i].v.length : Int) + 32) (by unfold I64; omega), wr64_id (by unfold I64; omega)]
  exact br_dec (by omega) (br_dec (by omega) ⟨⟨n + (g.l[i].n.length + g.l[i].v.length + 32), i + 1⟩, ⟨by simp only; omega, by simp only; omega⟩, by simp only; omega, by simp only; omega, rfl, wC_pl _⟩)
theorem eSt1_ok : EntOk Try.prog eSt1 := entC_ok (by
  intro a rows p v news h hp
  split at h <;> simp only [Option.some.injEq, Prod.mk.injEq, reduceCtorEq] at h
  obtain ⟨rfl, rfl, rfl⟩ := h
  exact St_con _ hp)
theorem eSt2_ok : EntOk Try.prog eSt2 := entC_ok (by
  intro a rows p v news h hp
  split at h <;> simp only [Option.some.injEq, Prod.mk.injEq, reduceCtorEq] at h
  obtain ⟨rfl, rfl, rfl⟩ := h
  exact Sw_con _ hp)
theorem eSum_ok : EntOk Try.prog eSum := entC_ok (by
  intro a rows p v news h hp
  split at h <;> simp only [Option.some.injEq, Prod.mk.injEq, reduceCtorEq] at h
  obtain ⟨rfl, rfl, rfl⟩ := h
  obtain ⟨⟨l, rfl, rfl⟩, h1, h2⟩ := hp
  simp only [totR, TotOk, dF, List.append_nil] at h2 ⊢
  exact sum_con l h1 h2)
theorem eRoom_ok : EntOk Try.prog eRoom := entC_ok (by
  intro a rows p v news h hp
  split at h <;> simp only [Option.some.injEq, Prod.mk.injEq, reduceCtorEq] at h
  obtain ⟨rfl, rfl, rfl⟩ := h
  obtain ⟨⟨l, rfl, rfl⟩, h1⟩ := hp
  simp only [rmC, dF]
  exact Go.Proofs.Ytacbignkbpfdhaa.fb.roomy_con l ⟨L _, L _⟩ (by omega))
theorem eInt_ok : EntOk Try.prog eInt := entC_ok (by
  intro a rows p v news h hp
  split at h <;> simp only [Option.some.injEq, Prod.mk.injEq, reduceCtorEq] at h
  obtain ⟨rfl, rfl, rfl⟩ := h
  obtain ⟨⟨l, rfl, rfl⟩, ⟨l2, rfl, rfl⟩, h1, h2⟩ := hp
  simp only [inB, dF, List.append_nil]
  exact Go.Proofs.Ytacbignkbpfdhaa.fb.int_con l l2 ⟨L _, L _⟩ h1 (by omega))
theorem eFdRuns_ok : EntOk Try.prog eFdRuns := entC_ok (by
  intro a rows p v news h hp
  split at h <;> simp only [Option.some.injEq, Prod.mk.injEq, reduceCtorEq] at h
  obtain ⟨rfl, rfl, rfl⟩ := h
  exact con_run mixed (n := 1000000) (by kernel_rfl) (by kernel_rfl))
theorem tFT_ok : ∀ x ∈ tFT, EntOk Try.prog x := all_cons eSt1_ok (all_cons eSt2_ok (all_cons eSum_ok (all_cons eRoom_ok (all_cons eInt_ok (all_cons eFdRuns_ok (all_nil))))))
theorem fd_tells (i : Int) (l : List Fl) (hi : I64 i) (hl : l.length ≤ 1048576) (hs : ∀ f ∈ l, f.n.length ≤ 1048576 ∧ f.v.length ≤ 1048576) : Con Try.prog 4 [.int .i64 i, .slice (some ⟨0, 0, none⟩) l.length 2] [gRo enF l] (.bool true) [gRo enF l] := by
  refine con_vc (E := EtFT) mixed (calls_envT tFT_ok) (lok_envT _ _) (M := mFT) (lm_one FT_piece) (FT_vc i l) ?_
  simp only [ofNat_eq, toNat_cast, Nat.zero_add, Nat.add_zero, Nat.mul_one, List.drop_zero, bCells_len, bCells_drop, bCells_take, bCells_app, bCells_one, bCells_plain, List.length_replicate, List.length_append, List.length_take, List.length_drop, List.take_length, and_true, true_and, and_self, decide_true, List.length_nil, List.length_cons, Nat.sub_zero, dB_mk, dB_ro, List.take_zero, fPl, fLen, fTake, n_rmC, n_in, n_tot, n_tok, isF_eq, wC_len, wC_tk, wC_tk2, wC_pl, wC_in]
  have ht := totF_le l hs
  refine ⟨hi, hi, ⟨Nat.le_refl _, by omega⟩, ⟨l, stA i, stB i, stA i, stB i, inR i, inR i⟩, ⟨hl, by simp only; omega⟩, rfl, rfl, rfl, rfl, rfl, rfl, rfl, rfl, rfl, rfl, fun _ _ => ?_⟩
  simp only [beq_self_eq_true, Bool.and_self, br_tt0]
  have hb : ∀ s : ByteArray, (s == s) = true := fun s => by have := Go.Proofs.Ytacbignkbpfdhaa.fb.bs_beq (L s) (L s); rw [bsL] at this; rw [this]; simp
  refine br_b (by simp [hb]) (br_dec (by omega) ⟨⟨by omega, by omega, by omega⟩, ⟨⟨by omega, by omega⟩, wC_isF l, by omega, by omega⟩, trivial⟩)
end Go.Proofs.Ytacbignkbpfdhaa.tk
