/- The law: the values of a name's fields, and the pairs in them; the fields stay. -/
import Derived.Test.YtllpeacofilbcaaSz9
import Derived.Test.YtllpeacofilbcaaRows
import Derived.Test.YtllpeacofilbcaaLtkPairs
import Derived.Test.YtllpeacofilbcaaLrtPairs
import Derived.Test.YtllpeacofilbcaaLfbook
import Derived.Test.YtllpeacofilbcaaLlgt
set_option linter.unusedSimpArgs false
set_option linter.unusedVariables false
namespace Go.Proofs.Ytllpeacofilbcaa.tk
open Go Go.Ev Go.Sy Go.RowKit Go.Proofs.Ytllpeacofilbcaa.gl
def roomF (r : Row) (n v : ByteArray) : List Value := gC enF (decF r.cells ++ List.replicate 80 ⟨L n, L v⟩)
noncomputable def intF (r0 r1 : Row) (n v : ByteArray) : Bool := fb.sameSe (decF r0.cells) (decF r1.cells ++ List.replicate 80 ⟨L n, L v⟩)
noncomputable def cTf : FuncId → List Value → List Row → Option (Prop × Value × List Row)
  | 14, [.slice (some ⟨0, 0, none⟩) n 2, .string s], [r0] => some (IsF r0 n ∧ n ≤ maxLen ∧ alB r0 s ≤ 16777216, .tuple #[.string (alV r0 s), .int .i64 (alN r0 s)], [])
  | 15, [.slice (some ⟨0, 0, none⟩) n 2, .string s], [r0] => some (IsF r0 n ∧ n ≤ maxLen ∧ alB r0 s ≤ 16777216, .tuple #[.string (alV r0 s), .int .i64 (alN r0 s)], [])
  | 16, [.slice (some ⟨0, 0, none⟩) n 2, .string s], [r0] => some (IsF r0 n ∧ n ≤ maxLen ∧ alB r0 s ≤ 16777000, .slice (some ⟨1, 0, none⟩) (prN r0 s) 3, [⟨prC r0 s, false, .cells true⟩])
  | 17, [.slice (some ⟨0, 0, none⟩) n 2, .string s], [r0] => some (IsF r0 n ∧ n ≤ maxLen ∧ alB r0 s ≤ 16777000, .slice (some ⟨1, 0, none⟩) (prN r0 s) 3, [⟨prC r0 s, false, .cells true⟩])
  | 13, [.slice (some ⟨0, 0, none⟩) n 2, .agg ⟨[.string a, .string b]⟩], [r0] => some (IsF r0 n ∧ n ≤ 16777136, .slice (some ⟨1, 0, none⟩) (n + 80) 2, [⟨roomF r0 a b, false, .cells true⟩])
  | 18, [.slice (some ⟨0, 0, none⟩) n 2, .slice (some ⟨1, 0, none⟩) m 2, .agg ⟨[.string a, .string b]⟩], [r0, r1] => some (IsF r0 n ∧ IsF r1 m ∧ n ≤ maxLen ∧ m ≤ 16777136, .bool (intF r0 r1 a b), [])
  | 3, [], [] => some (True, .bool true, [])
  | _, _, _ => none
def kTf (f : FuncId) : Bool := Nat.beq f 14 || Nat.beq f 15 || Nat.beq f 16 || Nat.beq f 17 || Nat.beq f 13 || Nat.beq f 18 || Nat.beq f 3
noncomputable abbrev ETf : Env := envC Try.prog cTf kTf
structure GTf where
  l : List Fl
  n : Nat
  nm : List UInt8
def tkf (g : GTf) : List Fl := g.l.take g.n
def pTf1 : List Nat := [0, 1, 0, 1, 1]
def slTf1 (g : GTf) (i : Nat) : List (Nat × Value) := [(0, .slice (some ⟨0, 0, none⟩) g.n 2), (1, .string (bs g.nm)), (5, .int .i64 (i : Nat))]
def rlTf1 (g : GTf) : List (Nat × Row) := [(0, gRo enF g.l)]
/-- No value is longer than 300. -/
def v300 (l : List Fl) : Prop := ∀ f ∈ l, f.v.length ≤ 300
def wsTf1 (g : GTf) : List (Gate Unit) := [⟨.exit 0, fun _ => v300 (tkf g), fun _ => [(0, .slice (some ⟨0, 0, none⟩) g.n 2), (1, .string (bs g.nm))], fun _ => rlTf1 g, 1⟩, ⟨.ret, fun _ => True, fun _ => [(4, .bool true)], fun _ => rlTf1 g, 1⟩]
def specTf1 : Sy.Spec := specOf 1 1 125 (fun g : GTf => g.n ≤ 20 ∧ g.n ≤ g.l.length) (fun g => slTf1 g 0) (fun g => rlTf1 g) wsTf1
def pTf2 : List Nat := [0, 1, 0, 1, 1, 1, 1, 1, 1, 1, 1, 1]
def pp (g : GTf) : List Pr := pairsL (tkf g) g.nm
def fr80 (l : List Fl) : List Fl := l ++ List.replicate 80 ⟨[109], []⟩
def slTf2 (g : GTf) (i : Nat) : List (Nat × Value) := [(0, .slice (some ⟨0, 0, none⟩) g.n 2), (6, .slice (some ⟨1, 0, none⟩) (g.n + 80) 2), (11, .slice (some ⟨2, 0, none⟩) (pp g).length 3), (12, .slice (some ⟨3, 0, none⟩) (pp g).length 3), (13, .int .i64 (i : Nat))]
def rlTf2 (g : GTf) : List (Nat × Row) := [(0, gRo enF g.l), (1, gOwn enF (fr80 (tkf g))), (2, gOwn enP (pp g)), (3, gOwn enP (pp g))]
def wsTf2 (g : GTf) : List (Gate Unit) := [⟨.exit 2, fun _ => True, fun _ => [(0, .slice (some ⟨0, 0, none⟩) g.n 2), (6, .slice (some ⟨1, 0, none⟩) (g.n + 80) 2)], fun _ => [(0, gRo enF g.l), (1, gOwn enF (fr80 (tkf g)))], 2⟩]
def specTf2 : Sy.Spec := specOf 1 4 125 (fun g : GTf => g.n ≤ 20 ∧ g.n ≤ g.l.length ∧ (pp g).length ≤ 16777216) (fun g => slTf2 g 0) (fun g => rlTf2 g) wsTf2
def mTf := mOf [(4, pTf1, specTf1), (4, pTf2, specTf2)]
theorem Tf1_round (g : GTf) (i : Nat) (Inv : Nat → Prop) (m : Nat → Nat) : mev ETf noM 60 4 (0 :: pTf1) false (codeOf Try.prog 4 (0 :: pTf1)) ⟨mkOv (slTf1 g i), 125, []⟩ none ⟨mkR (rlTf1 g), 1⟩ (roundK 1 1 125 Inv m (slTf1 g) (fun _ => rlTf1 g) (wsTf1 g) i) =
  (br (decide ((↑i : Int) < Int.ofNat g.2))
   (br (decide ((0 : Int) ≤ (↑i : Int) ∧ (↑i : Int) < (↑g.2 : Int)))
    ((Eq (α := Option Value) ((gC enF g.1)[(0 : Nat) + Int.toNat (↑i : Int) * (2 : Nat) + (1 : Nat)]?) (some (Value.string (cellS (gC enF g.1) ((0 : Nat) + Int.toNat (↑i : Int) * (2 : Nat) + (1 : Nat)))))) ∧
    (br (decide (Int.ofNat (List.length (Array.toList (ByteArray.data (cellS (gC enF g.1) ((0 : Nat) + Int.toNat (↑i : Int) * (2 : Nat) + (1 : Nat)))))) > (300 : Int)))
     (((True ∧ (True ∧ True))) ∧
     (∃ y : Unit, ((True) ∧
     ((true = true) ∧
     ((Eq (α := List Value) (gC enF g.1) (gC enF g.1)) ∧
     ((Plain (gC enF g.1)) ∧
     True))))))
     (∃ j : Nat, ((Inv j) ∧
     ((m j < m i) ∧
     (((0 : Nat) = (0 : Nat)) ∧
     ((g.2 = g.2) ∧
     ((bs g.3 = bs g.3) ∧
     (((↑j : Int) = IntKind.wrap IntKind.i64 ((↑i : Int) + (1 : Int))) ∧
     ((Eq (α := List Value) (gC enF g.1) (gC enF g.1)) ∧
     ((Plain (gC enF g.1)) ∧
     True)))))))))))
    False)
   (∃ y : Unit, ((v300 (tkf g)) ∧
   (((0 : Nat) = (0 : Nat)) ∧
   ((g.2 = g.2) ∧
   ((bs g.3 = bs g.3) ∧
   ((Eq (α := List Value) (gC enF g.1) (gC enF g.1)) ∧
   ((Plain (gC enF g.1)) ∧
   True)))))))) := by kernel_rfl
theorem Tf2_round (g : GTf) (i : Nat) (Inv : Nat → Prop) (m : Nat → Nat) : mev ETf noM 60 4 (0 :: pTf2) false (codeOf Try.prog 4 (0 :: pTf2)) ⟨mkOv (slTf2 g i), 125, []⟩ none ⟨mkR (rlTf2 g), 4⟩ (roundK 1 4 125 Inv m (slTf2 g) (fun _ => rlTf2 g) (wsTf2 g) i) =
  (br (decide ((↑i : Int) < Int.ofNat (List.length (pp g))))
   (br (decide ((0 : Int) ≤ (↑i : Int) ∧ (↑i : Int) < (↑(List.length (pp g)) : Int)))
    ((Eq (α := Option Value) ((gC enP (pp g))[(0 : Nat) + Int.toNat (↑i : Int) * (3 : Nat) + (0 : Nat)]?) (some (Value.string (cellS (gC enP (pp g)) ((0 : Nat) + Int.toNat (↑i : Int) * (3 : Nat) + (0 : Nat)))))) ∧
    (br (decide ((0 : Int) ≤ (↑i : Int) ∧ (↑i : Int) < (↑(List.length (pp g)) : Int)))
     ((Eq (α := Option Value) ((gC enP (pp g))[(0 : Nat) + Int.toNat (↑i : Int) * (3 : Nat) + (0 : Nat)]?) (some (Value.string (cellS (gC enP (pp g)) ((0 : Nat) + Int.toNat (↑i : Int) * (3 : Nat) + (0 : Nat)))))) ∧
     (br (!strEq (cellS (gC enP (pp g)) ((0 : Nat) + Int.toNat (↑i : Int) * (3 : Nat) + (0 : Nat))) (cellS (gC enP (pp g)) ((0 : Nat) + Int.toNat (↑i : Int) * (3 : Nat) + (0 : Nat))))
      ((Eq (α := Option Value) ((gC enP (pp g))[(0 : Nat) + Int.toNat (↑i : Int) * (3 : Nat) + (0 : Nat)]?) (some (Value.string (cellS (gC enP (pp g)) ((0 : Nat) + Int.toNat (↑i : Int) * (3 : Nat) + (0 : Nat)))))) ∧
      ((Value.string (cellS (gC enP (pp g)) ((0 : Nat) + Int.toNat (↑i : Int) * (3 : Nat) + (0 : Nat))) = Value.string (cellS (gC enP (pp g)) ((0 : Nat) + Int.toNat (↑i : Int) * (3 : Nat) + (0 : Nat)))) ∧
      ((Eq (α := Option Value) ((gC enP (pp g))[(0 : Nat) + Int.toNat (↑i : Int) * (3 : Nat) + (0 : Nat)]?) (some (Value.string (cellS (gC enP (pp g)) ((0 : Nat) + Int.toNat (↑i : Int) * (3 : Nat) + (0 : Nat)))))) ∧
      ((Value.string (cellS (gC enP (pp g)) ((0 : Nat) + Int.toNat (↑i : Int) * (3 : Nat) + (0 : Nat))) = Value.string (cellS (gC enP (pp g)) ((0 : Nat) + Int.toNat (↑i : Int) * (3 : Nat) + (0 : Nat)))) ∧
      False))))
      (br (decide ((0 : Int) ≤ (↑i : Int) ∧ (↑i : Int) < (↑(List.length (pp g)) : Int)))
       ((Eq (α := Option Value) ((gC enP (pp g))[(0 : Nat) + Int.toNat (↑i : Int) * (3 : Nat) + (1 : Nat)]?) (some (Value.string (cellS (gC enP (pp g)) ((0 : Nat) + Int.toNat (↑i : Int) * (3 : Nat) + (1 : Nat)))))) ∧
       (br (decide ((0 : Int) ≤ (↑i : Int) ∧ (↑i : Int) < (↑(List.length (pp g)) : Int)))
        ((Eq (α := Option Value) ((gC enP (pp g))[(0 : Nat) + Int.toNat (↑i : Int) * (3 : Nat) + (1 : Nat)]?) (some (Value.string (cellS (gC enP (pp g)) ((0 : Nat) + Int.toNat (↑i : Int) * (3 : Nat) + (1 : Nat)))))) ∧
        (br (!strEq (cellS (gC enP (pp g)) ((0 : Nat) + Int.toNat (↑i : Int) * (3 : Nat) + (1 : Nat))) (cellS (gC enP (pp g)) ((0 : Nat) + Int.toNat (↑i : Int) * (3 : Nat) + (1 : Nat))))
         ((Eq (α := Option Value) ((gC enP (pp g))[(0 : Nat) + Int.toNat (↑i : Int) * (3 : Nat) + (0 : Nat)]?) (some (Value.string (cellS (gC enP (pp g)) ((0 : Nat) + Int.toNat (↑i : Int) * (3 : Nat) + (0 : Nat)))))) ∧
         ((Value.string (cellS (gC enP (pp g)) ((0 : Nat) + Int.toNat (↑i : Int) * (3 : Nat) + (0 : Nat))) = Value.string (cellS (gC enP (pp g)) ((0 : Nat) + Int.toNat (↑i : Int) * (3 : Nat) + (0 : Nat)))) ∧
         ((Eq (α := Option Value) ((gC enP (pp g))[(0 : Nat) + Int.toNat (↑i : Int) * (3 : Nat) + (0 : Nat)]?) (some (Value.string (cellS (gC enP (pp g)) ((0 : Nat) + Int.toNat (↑i : Int) * (3 : Nat) + (0 : Nat)))))) ∧
         ((Value.string (cellS (gC enP (pp g)) ((0 : Nat) + Int.toNat (↑i : Int) * (3 : Nat) + (0 : Nat))) = Value.string (cellS (gC enP (pp g)) ((0 : Nat) + Int.toNat (↑i : Int) * (3 : Nat) + (0 : Nat)))) ∧
         ((Eq (α := Option Value) ((gC enP (pp g))[(0 : Nat) + Int.toNat (↑i : Int) * (3 : Nat) + (1 : Nat)]?) (some (Value.string (cellS (gC enP (pp g)) ((0 : Nat) + Int.toNat (↑i : Int) * (3 : Nat) + (1 : Nat)))))) ∧
         ((Value.string (cellS (gC enP (pp g)) ((0 : Nat) + Int.toNat (↑i : Int) * (3 : Nat) + (1 : Nat))) = Value.string (cellS (gC enP (pp g)) ((0 : Nat) + Int.toNat (↑i : Int) * (3 : Nat) + (1 : Nat)))) ∧
         ((Eq (α := Option Value) ((gC enP (pp g))[(0 : Nat) + Int.toNat (↑i : Int) * (3 : Nat) + (1 : Nat)]?) (some (Value.string (cellS (gC enP (pp g)) ((0 : Nat) + Int.toNat (↑i : Int) * (3 : Nat) + (1 : Nat)))))) ∧
         ((Value.string (cellS (gC enP (pp g)) ((0 : Nat) + Int.toNat (↑i : Int) * (3 : Nat) + (1 : Nat))) = Value.string (cellS (gC enP (pp g)) ((0 : Nat) + Int.toNat (↑i : Int) * (3 : Nat) + (1 : Nat)))) ∧
         False))))))))
         (br (decide ((0 : Int) ≤ (↑i : Int) ∧ (↑i : Int) < (↑(List.length (pp g)) : Int)))
          ((Eq (α := Option Value) ((gC enP (pp g))[(0 : Nat) + Int.toNat (↑i : Int) * (3 : Nat) + (2 : Nat)]?) (some (Value.bool (cellB (gC enP (pp g)) ((0 : Nat) + Int.toNat (↑i : Int) * (3 : Nat) + (2 : Nat)))))) ∧
          (br (decide ((0 : Int) ≤ (↑i : Int) ∧ (↑i : Int) < (↑(List.length (pp g)) : Int)))
           ((Eq (α := Option Value) ((gC enP (pp g))[(0 : Nat) + Int.toNat (↑i : Int) * (3 : Nat) + (2 : Nat)]?) (some (Value.bool (cellB (gC enP (pp g)) ((0 : Nat) + Int.toNat (↑i : Int) * (3 : Nat) + (2 : Nat)))))) ∧
           ((Eq (α := Option Value) ((gC enP (pp g))[(0 : Nat) + Int.toNat (↑i : Int) * (3 : Nat) + (0 : Nat)]?) (some (Value.string (cellS (gC enP (pp g)) ((0 : Nat) + Int.toNat (↑i : Int) * (3 : Nat) + (0 : Nat)))))) ∧
           ((Value.string (cellS (gC enP (pp g)) ((0 : Nat) + Int.toNat (↑i : Int) * (3 : Nat) + (0 : Nat))) = Value.string (cellS (gC enP (pp g)) ((0 : Nat) + Int.toNat (↑i : Int) * (3 : Nat) + (0 : Nat)))) ∧
           ((Eq (α := Option Value) ((gC enP (pp g))[(0 : Nat) + Int.toNat (↑i : Int) * (3 : Nat) + (0 : Nat)]?) (some (Value.string (cellS (gC enP (pp g)) ((0 : Nat) + Int.toNat (↑i : Int) * (3 : Nat) + (0 : Nat)))))) ∧
           ((Value.string (cellS (gC enP (pp g)) ((0 : Nat) + Int.toNat (↑i : Int) * (3 : Nat) + (0 : Nat))) = Value.string (cellS (gC enP (pp g)) ((0 : Nat) + Int.toNat (↑i : Int) * (3 : Nat) + (0 : Nat)))) ∧
           ((Eq (α := Option Value) ((gC enP (pp g))[(0 : Nat) + Int.toNat (↑i : Int) * (3 : Nat) + (1 : Nat)]?) (some (Value.string (cellS (gC enP (pp g)) ((0 : Nat) + Int.toNat (↑i : Int) * (3 : Nat) + (1 : Nat)))))) ∧
           ((Value.string (cellS (gC enP (pp g)) ((0 : Nat) + Int.toNat (↑i : Int) * (3 : Nat) + (1 : Nat))) = Value.string (cellS (gC enP (pp g)) ((0 : Nat) + Int.toNat (↑i : Int) * (3 : Nat) + (1 : Nat)))) ∧
           ((Eq (α := Option Value) ((gC enP (pp g))[(0 : Nat) + Int.toNat (↑i : Int) * (3 : Nat) + (1 : Nat)]?) (some (Value.string (cellS (gC enP (pp g)) ((0 : Nat) + Int.toNat (↑i : Int) * (3 : Nat) + (1 : Nat)))))) ∧
           ((Value.string (cellS (gC enP (pp g)) ((0 : Nat) + Int.toNat (↑i : Int) * (3 : Nat) + (1 : Nat))) = Value.string (cellS (gC enP (pp g)) ((0 : Nat) + Int.toNat (↑i : Int) * (3 : Nat) + (1 : Nat)))) ∧
           ((Eq (α := Option Value) ((gC enP (pp g))[(0 : Nat) + Int.toNat (↑i : Int) * (3 : Nat) + (2 : Nat)]?) (some (Value.bool (cellB (gC enP (pp g)) ((0 : Nat) + Int.toNat (↑i : Int) * (3 : Nat) + (2 : Nat)))))) ∧
           ((Value.bool (cellB (gC enP (pp g)) ((0 : Nat) + Int.toNat (↑i : Int) * (3 : Nat) + (2 : Nat))) = Value.bool (cellB (gC enP (pp g)) ((0 : Nat) + Int.toNat (↑i : Int) * (3 : Nat) + (2 : Nat)))) ∧
           ((Eq (α := Option Value) ((gC enP (pp g))[(0 : Nat) + Int.toNat (↑i : Int) * (3 : Nat) + (2 : Nat)]?) (some (Value.bool (cellB (gC enP (pp g)) ((0 : Nat) + Int.toNat (↑i : Int) * (3 : Nat) + (2 : Nat)))))) ∧
           ((Value.bool (cellB (gC enP (pp g)) ((0 : Nat) + Int.toNat (↑i : Int) * (3 : Nat) + (2 : Nat))) = Value.bool (cellB (gC enP (pp g)) ((0 : Nat) + Int.toNat (↑i : Int) * (3 : Nat) + (2 : Nat)))) ∧
           (br (!cellB (gC enP (pp g)) ((0 : Nat) + Int.toNat (↑i : Int) * (3 : Nat) + (2 : Nat)) == cellB (gC enP (pp g)) ((0 : Nat) + Int.toNat (↑i : Int) * (3 : Nat) + (2 : Nat)))
            False
            (∃ j : Nat, ((Inv j) ∧
            ((m j < m i) ∧
            (((0 : Nat) = (0 : Nat)) ∧
            ((g.2 = g.2) ∧
            (((0 : Nat) = (0 : Nat)) ∧
            ((g.2 + (80 : Nat) = g.2 + (80 : Nat)) ∧
            (((0 : Nat) = (0 : Nat)) ∧
            ((List.length (pp g) = List.length (pp g)) ∧
            (((0 : Nat) = (0 : Nat)) ∧
            ((List.length (pp g) = List.length (pp g)) ∧
            (((↑j : Int) = IntKind.wrap IntKind.i64 ((↑i : Int) + (1 : Int))) ∧
            ((Eq (α := List Value) (gC enF g.1) (gC enF g.1)) ∧
            ((Plain (gC enF g.1)) ∧
            ((Eq (α := List Value) (gC enF (fr80 (tkf g))) (gC enF (fr80 (tkf g)))) ∧
            ((Plain (gC enF (fr80 (tkf g)))) ∧
            ((Eq (α := List Value) (gC enP (pp g)) (gC enP (pp g))) ∧
            ((Plain (gC enP (pp g))) ∧
            ((Eq (α := List Value) (gC enP (pp g)) (gC enP (pp g))) ∧
            ((Plain (gC enP (pp g))) ∧
            True))))))))))))))))))))))))))))))))))
           False))
          False)))
        False))
       False)))
     False))
    False)
   (∃ y : Unit, ((True) ∧
   (((0 : Nat) = (0 : Nat)) ∧
   ((g.2 = g.2) ∧
   (((0 : Nat) = (0 : Nat)) ∧
   ((g.2 + (80 : Nat) = g.2 + (80 : Nat)) ∧
   ((Eq (α := List Value) (gC enF g.1) (gC enF g.1)) ∧
   ((Plain (gC enF g.1)) ∧
   ((Eq (α := List Value) (gC enF (fr80 (tkf g))) (gC enF (fr80 (tkf g)))) ∧
   ((Plain (gC enF (fr80 (tkf g)))) ∧
   True))))))))))) := by kernel_rfl
theorem Tf_vc (l : List Fl) (nm : List UInt8) : mcall ETf mTf 60 4 [.slice (some ⟨0, 0, none⟩) l.length 2, .string (bs nm)] ⟨mkR (nums 0 [gRo enF l]), 1⟩ (retIs 1 (.bool true) [gRo enF l]) =
  (br (decide (Int.ofNat (List.length l) > (20 : Int)))
   (br (decide ((0 : Int) ≤ (↑(0 : Nat) : Int) ∧ (↑(0 : Nat) : Int) ≤ (20 : Int) ∧ (20 : Int) ≤ (↑(List.length l) : Int)))
    (∃ g : GTf, ((g.2 ≤ (20 : Nat) ∧ g.2 ≤ List.length g.1) ∧
    (((0 : Nat) = (0 : Nat)) ∧
    ((g.2 = (20 : Nat)) ∧
    ((bs g.3 = bs nm) ∧
    (((0 : Int) = (0 : Int)) ∧
    ((Eq (α := List Value) (gC enF g.1) (gC enF l)) ∧
    ((Plain (gC enF g.1)) ∧
    (∀ (side : Bool), (br (side)
     (∀ (y : Unit), ((v300 (tkf g)) →
     ((((((0 : Nat) + g.2 * (2 : Nat) ≤ List.length (gC enF g.1) ∧ Plain (List.take (g.2 * (2 : Nat)) (List.drop (0 : Nat) (gC enF g.1)))) ∧ ((True ∧ (True ∧ True)) ∧ True)) ∧ ((Plain (roomF (Row.mk (List.take (g.2 * (2 : Nat)) (List.drop (0 : Nat) (gC enF g.1))) true (Ob.cells true)) (ByteArray.mk #[(109 : UInt8)]) (ByteArray.mk #[])) ∧ True) ∧ (IsF (Row.mk (List.take (g.2 * (2 : Nat)) (List.drop (0 : Nat) (gC enF g.1))) true (Ob.cells true)) g.2 ∧ g.2 ≤ (16777136 : Nat))))) ∧
     (br (decide ((0 : Int) ≤ (↑(0 : Nat) : Int) ∧ (0 : Int) ≤ Int.ofNat g.2 ∧ Int.ofNat g.2 ≤ (↑(g.2 + (80 : Nat)) : Int)))
      ((((((0 : Nat) + (Int.toNat (Int.ofNat g.2) - (0 : Nat)) * (2 : Nat) ≤ List.length (roomF (Row.mk (List.take (g.2 * (2 : Nat)) (List.drop (0 : Nat) (gC enF g.1))) true (Ob.cells true)) (ByteArray.mk #[(109 : UInt8)]) (ByteArray.mk #[])) ∧ Plain (List.take ((Int.toNat (Int.ofNat g.2) - (0 : Nat)) * (2 : Nat)) (List.drop (0 : Nat) (roomF (Row.mk (List.take (g.2 * (2 : Nat)) (List.drop (0 : Nat) (gC enF g.1))) true (Ob.cells true)) (ByteArray.mk #[(109 : UInt8)]) (ByteArray.mk #[]))))) ∧ (True ∧ True)) ∧ (True ∧ (IsF (Row.mk (List.take ((Int.toNat (Int.ofNat g.2) - (0 : Nat)) * (2 : Nat)) (List.drop (0 : Nat) (roomF (Row.mk (List.take (g.2 * (2 : Nat)) (List.drop (0 : Nat) (gC enF g.1))) true (Ob.cells true)) (ByteArray.mk #[(109 : UInt8)]) (ByteArray.mk #[])))) true (Ob.cells true)) (Int.toNat (Int.ofNat g.2) - (0 : Nat)) ∧ (Int.toNat (Int.ofNat g.2) - (0 : Nat) ≤ (9223372036854775807 : Nat) ∧ alB (Row.mk (List.take ((Int.toNat (Int.ofNat g.2) - (0 : Nat)) * (2 : Nat)) (List.drop (0 : Nat) (roomF (Row.mk (List.take (g.2 * (2 : Nat)) (List.drop (0 : Nat) (gC enF g.1))) true (Ob.cells true)) (ByteArray.mk #[(109 : UInt8)]) (ByteArray.mk #[])))) true (Ob.cells true)) (bs g.3) ≤ (16777216 : Nat)))))) ∧
      ((((((0 : Nat) + g.2 * (2 : Nat) ≤ List.length (gC enF g.1) ∧ Plain (List.take (g.2 * (2 : Nat)) (List.drop (0 : Nat) (gC enF g.1)))) ∧ (True ∧ True)) ∧ (True ∧ (IsF (Row.mk (List.take (g.2 * (2 : Nat)) (List.drop (0 : Nat) (gC enF g.1))) true (Ob.cells true)) g.2 ∧ (g.2 ≤ (9223372036854775807 : Nat) ∧ alB (Row.mk (List.take (g.2 * (2 : Nat)) (List.drop (0 : Nat) (gC enF g.1))) true (Ob.cells true)) (bs g.3) ≤ (16777216 : Nat)))))) ∧
      (br (decide ((0 : Int) ≤ (↑(0 : Nat) : Int) ∧ (0 : Int) ≤ Int.ofNat g.2 ∧ Int.ofNat g.2 ≤ (↑(g.2 + (80 : Nat)) : Int)))
       ((((((0 : Nat) + (Int.toNat (Int.ofNat g.2) - (0 : Nat)) * (2 : Nat) ≤ List.length (roomF (Row.mk (List.take (g.2 * (2 : Nat)) (List.drop (0 : Nat) (gC enF g.1))) true (Ob.cells true)) (ByteArray.mk #[(109 : UInt8)]) (ByteArray.mk #[])) ∧ Plain (List.take ((Int.toNat (Int.ofNat g.2) - (0 : Nat)) * (2 : Nat)) (List.drop (0 : Nat) (roomF (Row.mk (List.take (g.2 * (2 : Nat)) (List.drop (0 : Nat) (gC enF g.1))) true (Ob.cells true)) (ByteArray.mk #[(109 : UInt8)]) (ByteArray.mk #[]))))) ∧ (True ∧ True)) ∧ ((Plain (prC (Row.mk (List.take ((Int.toNat (Int.ofNat g.2) - (0 : Nat)) * (2 : Nat)) (List.drop (0 : Nat) (roomF (Row.mk (List.take (g.2 * (2 : Nat)) (List.drop (0 : Nat) (gC enF g.1))) true (Ob.cells true)) (ByteArray.mk #[(109 : UInt8)]) (ByteArray.mk #[])))) true (Ob.cells true)) (bs g.3)) ∧ True) ∧ (IsF (Row.mk (List.take ((Int.toNat (Int.ofNat g.2) - (0 : Nat)) * (2 : Nat)) (List.drop (0 : Nat) (roomF (Row.mk (List.take (g.2 * (2 : Nat)) (List.drop (0 : Nat) (gC enF g.1))) true (Ob.cells true)) (ByteArray.mk #[(109 : UInt8)]) (ByteArray.mk #[])))) true (Ob.cells true)) (Int.toNat (Int.ofNat g.2) - (0 : Nat)) ∧ (Int.toNat (Int.ofNat g.2) - (0 : Nat) ≤ (9223372036854775807 : Nat) ∧ alB (Row.mk (List.take ((Int.toNat (Int.ofNat g.2) - (0 : Nat)) * (2 : Nat)) (List.drop (0 : Nat) (roomF (Row.mk (List.take (g.2 * (2 : Nat)) (List.drop (0 : Nat) (gC enF g.1))) true (Ob.cells true)) (ByteArray.mk #[(109 : UInt8)]) (ByteArray.mk #[])))) true (Ob.cells true)) (bs g.3) ≤ (16777000 : Nat)))))) ∧
       ((((((0 : Nat) + g.2 * (2 : Nat) ≤ List.length (gC enF g.1) ∧ Plain (List.take (g.2 * (2 : Nat)) (List.drop (0 : Nat) (gC enF g.1)))) ∧ (True ∧ True)) ∧ ((Plain (prC (Row.mk (List.take (g.2 * (2 : Nat)) (List.drop (0 : Nat) (gC enF g.1))) true (Ob.cells true)) (bs g.3)) ∧ True) ∧ (IsF (Row.mk (List.take (g.2 * (2 : Nat)) (List.drop (0 : Nat) (gC enF g.1))) true (Ob.cells true)) g.2 ∧ (g.2 ≤ (9223372036854775807 : Nat) ∧ alB (Row.mk (List.take (g.2 * (2 : Nat)) (List.drop (0 : Nat) (gC enF g.1))) true (Ob.cells true)) (bs g.3) ≤ (16777000 : Nat)))))) ∧
       (br (!strEq (alV (Row.mk (List.take ((Int.toNat (Int.ofNat g.2) - (0 : Nat)) * (2 : Nat)) (List.drop (0 : Nat) (roomF (Row.mk (List.take (g.2 * (2 : Nat)) (List.drop (0 : Nat) (gC enF g.1))) true (Ob.cells true)) (ByteArray.mk #[(109 : UInt8)]) (ByteArray.mk #[])))) true (Ob.cells true)) (bs g.3)) (alV (Row.mk (List.take (g.2 * (2 : Nat)) (List.drop (0 : Nat) (gC enF g.1))) true (Ob.cells true)) (bs g.3)))
        ((true = false) ∧
        ((Eq (α := List Value) (gC enF l) (gC enF g.1)) ∧
        ((Plain (gC enF l)) ∧
        True)))
        (br (alN (Row.mk (List.take ((Int.toNat (Int.ofNat g.2) - (0 : Nat)) * (2 : Nat)) (List.drop (0 : Nat) (roomF (Row.mk (List.take (g.2 * (2 : Nat)) (List.drop (0 : Nat) (gC enF g.1))) true (Ob.cells true)) (ByteArray.mk #[(109 : UInt8)]) (ByteArray.mk #[])))) true (Ob.cells true)) (bs g.3) != alN (Row.mk (List.take (g.2 * (2 : Nat)) (List.drop (0 : Nat) (gC enF g.1))) true (Ob.cells true)) (bs g.3))
         ((true = false) ∧
         ((Eq (α := List Value) (gC enF l) (gC enF g.1)) ∧
         ((Plain (gC enF l)) ∧
         True)))
         (br (Int.ofNat (prN (Row.mk (List.take ((Int.toNat (Int.ofNat g.2) - (0 : Nat)) * (2 : Nat)) (List.drop (0 : Nat) (roomF (Row.mk (List.take (g.2 * (2 : Nat)) (List.drop (0 : Nat) (gC enF g.1))) true (Ob.cells true)) (ByteArray.mk #[(109 : UInt8)]) (ByteArray.mk #[])))) true (Ob.cells true)) (bs g.3)) != Int.ofNat (prN (Row.mk (List.take (g.2 * (2 : Nat)) (List.drop (0 : Nat) (gC enF g.1))) true (Ob.cells true)) (bs g.3)))
          ((true = false) ∧
          ((Eq (α := List Value) (gC enF l) (gC enF g.1)) ∧
          ((Plain (gC enF l)) ∧
          True)))
          (∃ g2 : GTf, ((g2.2 ≤ (20 : Nat) ∧ g2.2 ≤ List.length g2.1 ∧ List.length (pp g2) ≤ (16777216 : Nat)) ∧
          (((0 : Nat) = (0 : Nat)) ∧
          ((g2.2 = g.2) ∧
          (((0 : Nat) = (0 : Nat)) ∧
          ((g2.2 + (80 : Nat) = g.2 + (80 : Nat)) ∧
          (((0 : Nat) = (0 : Nat)) ∧
          ((List.length (pp g2) = prN (Row.mk (List.take ((Int.toNat (Int.ofNat g.2) - (0 : Nat)) * (2 : Nat)) (List.drop (0 : Nat) (roomF (Row.mk (List.take (g.2 * (2 : Nat)) (List.drop (0 : Nat) (gC enF g.1))) true (Ob.cells true)) (ByteArray.mk #[(109 : UInt8)]) (ByteArray.mk #[])))) true (Ob.cells true)) (bs g.3)) ∧
          (((0 : Nat) = (0 : Nat)) ∧
          ((List.length (pp g2) = prN (Row.mk (List.take (g.2 * (2 : Nat)) (List.drop (0 : Nat) (gC enF g.1))) true (Ob.cells true)) (bs g.3)) ∧
          (((0 : Int) = (0 : Int)) ∧
          ((Eq (α := List Value) (gC enF g2.1) (gC enF g.1)) ∧
          ((Plain (gC enF g2.1)) ∧
          ((Eq (α := List Value) (gC enF (fr80 (tkf g2))) (roomF (Row.mk (List.take (g.2 * (2 : Nat)) (List.drop (0 : Nat) (gC enF g.1))) true (Ob.cells true)) (ByteArray.mk #[(109 : UInt8)]) (ByteArray.mk #[]))) ∧
          ((Plain (gC enF (fr80 (tkf g2)))) ∧
          ((Eq (α := List Value) (gC enP (pp g2)) (prC (Row.mk (List.take ((Int.toNat (Int.ofNat g.2) - (0 : Nat)) * (2 : Nat)) (List.drop (0 : Nat) (roomF (Row.mk (List.take (g.2 * (2 : Nat)) (List.drop (0 : Nat) (gC enF g.1))) true (Ob.cells true)) (ByteArray.mk #[(109 : UInt8)]) (ByteArray.mk #[])))) true (Ob.cells true)) (bs g.3))) ∧
          ((Plain (gC enP (pp g2))) ∧
          ((Eq (α := List Value) (gC enP (pp g2)) (prC (Row.mk (List.take (g.2 * (2 : Nat)) (List.drop (0 : Nat) (gC enF g.1))) true (Ob.cells true)) (bs g.3))) ∧
          ((Plain (gC enP (pp g2))) ∧
          (∀ (y2 : Unit), ((True) →
          ((((((0 : Nat) + (g2.2 + (80 : Nat)) * (2 : Nat) ≤ List.length (gC enF (fr80 (tkf g2))) ∧ Plain (List.take ((g2.2 + (80 : Nat)) * (2 : Nat)) (List.drop (0 : Nat) (gC enF (fr80 (tkf g2)))))) ∧ (((0 : Nat) + g2.2 * (2 : Nat) ≤ List.length (gC enF g2.1) ∧ Plain (List.take (g2.2 * (2 : Nat)) (List.drop (0 : Nat) (gC enF g2.1)))) ∧ ((True ∧ (True ∧ True)) ∧ True))) ∧ (True ∧ (IsF (Row.mk (List.take ((g2.2 + (80 : Nat)) * (2 : Nat)) (List.drop (0 : Nat) (gC enF (fr80 (tkf g2))))) true (Ob.cells true)) (g2.2 + (80 : Nat)) ∧ (IsF (Row.mk (List.take (g2.2 * (2 : Nat)) (List.drop (0 : Nat) (gC enF g2.1))) true (Ob.cells true)) g2.2 ∧ (g2.2 + (80 : Nat) ≤ (9223372036854775807 : Nat) ∧ g2.2 ≤ (16777136 : Nat))))))) ∧
          (br (intF (Row.mk (List.take ((g2.2 + (80 : Nat)) * (2 : Nat)) (List.drop (0 : Nat) (gC enF (fr80 (tkf g2))))) true (Ob.cells true)) (Row.mk (List.take (g2.2 * (2 : Nat)) (List.drop (0 : Nat) (gC enF g2.1))) true (Ob.cells true)) (ByteArray.mk #[(109 : UInt8)]) (ByteArray.mk #[]))
           (((True ∧ (True ∧ True))) ∧
           ((true = true) ∧
           ((Eq (α := List Value) (gC enF l) (gC enF g2.1)) ∧
           ((Plain (gC enF l)) ∧
           True))))
           ((true = false) ∧
           ((Eq (α := List Value) (gC enF l) (gC enF g2.1)) ∧
           ((Plain (gC enF l)) ∧
           True)))))))))))))))))))))))))))))))
       False)))
      False))))
     (∀ (y : Unit), ((True) →
     ((true = true) ∧
     ((Eq (α := List Value) (gC enF l) (gC enF g.1)) ∧
     ((Plain (gC enF l)) ∧
     True)))))))))))))))
    False)
   (∃ g : GTf, ((g.2 ≤ (20 : Nat) ∧ g.2 ≤ List.length g.1) ∧
   (((0 : Nat) = (0 : Nat)) ∧
   ((g.2 = List.length l) ∧
   ((bs g.3 = bs nm) ∧
   (((0 : Int) = (0 : Int)) ∧
   ((Eq (α := List Value) (gC enF g.1) (gC enF l)) ∧
   ((Plain (gC enF g.1)) ∧
   (∀ (side : Bool), (br (side)
    (∀ (y : Unit), ((v300 (tkf g)) →
    ((((((0 : Nat) + g.2 * (2 : Nat) ≤ List.length (gC enF g.1) ∧ Plain (List.take (g.2 * (2 : Nat)) (List.drop (0 : Nat) (gC enF g.1)))) ∧ ((True ∧ (True ∧ True)) ∧ True)) ∧ ((Plain (roomF (Row.mk (List.take (g.2 * (2 : Nat)) (List.drop (0 : Nat) (gC enF g.1))) true (Ob.cells true)) (ByteArray.mk #[(109 : UInt8)]) (ByteArray.mk #[])) ∧ True) ∧ (IsF (Row.mk (List.take (g.2 * (2 : Nat)) (List.drop (0 : Nat) (gC enF g.1))) true (Ob.cells true)) g.2 ∧ g.2 ≤ (16777136 : Nat))))) ∧
    (br (decide ((0 : Int) ≤ (↑(0 : Nat) : Int) ∧ (0 : Int) ≤ Int.ofNat g.2 ∧ Int.ofNat g.2 ≤ (↑(g.2 + (80 : Nat)) : Int)))
     ((((((0 : Nat) + (Int.toNat (Int.ofNat g.2) - (0 : Nat)) * (2 : Nat) ≤ List.length (roomF (Row.mk (List.take (g.2 * (2 : Nat)) (List.drop (0 : Nat) (gC enF g.1))) true (Ob.cells true)) (ByteArray.mk #[(109 : UInt8)]) (ByteArray.mk #[])) ∧ Plain (List.take ((Int.toNat (Int.ofNat g.2) - (0 : Nat)) * (2 : Nat)) (List.drop (0 : Nat) (roomF (Row.mk (List.take (g.2 * (2 : Nat)) (List.drop (0 : Nat) (gC enF g.1))) true (Ob.cells true)) (ByteArray.mk #[(109 : UInt8)]) (ByteArray.mk #[]))))) ∧ (True ∧ True)) ∧ (True ∧ (IsF (Row.mk (List.take ((Int.toNat (Int.ofNat g.2) - (0 : Nat)) * (2 : Nat)) (List.drop (0 : Nat) (roomF (Row.mk (List.take (g.2 * (2 : Nat)) (List.drop (0 : Nat) (gC enF g.1))) true (Ob.cells true)) (ByteArray.mk #[(109 : UInt8)]) (ByteArray.mk #[])))) true (Ob.cells true)) (Int.toNat (Int.ofNat g.2) - (0 : Nat)) ∧ (Int.toNat (Int.ofNat g.2) - (0 : Nat) ≤ (9223372036854775807 : Nat) ∧ alB (Row.mk (List.take ((Int.toNat (Int.ofNat g.2) - (0 : Nat)) * (2 : Nat)) (List.drop (0 : Nat) (roomF (Row.mk (List.take (g.2 * (2 : Nat)) (List.drop (0 : Nat) (gC enF g.1))) true (Ob.cells true)) (ByteArray.mk #[(109 : UInt8)]) (ByteArray.mk #[])))) true (Ob.cells true)) (bs g.3) ≤ (16777216 : Nat)))))) ∧
     ((((((0 : Nat) + g.2 * (2 : Nat) ≤ List.length (gC enF g.1) ∧ Plain (List.take (g.2 * (2 : Nat)) (List.drop (0 : Nat) (gC enF g.1)))) ∧ (True ∧ True)) ∧ (True ∧ (IsF (Row.mk (List.take (g.2 * (2 : Nat)) (List.drop (0 : Nat) (gC enF g.1))) true (Ob.cells true)) g.2 ∧ (g.2 ≤ (9223372036854775807 : Nat) ∧ alB (Row.mk (List.take (g.2 * (2 : Nat)) (List.drop (0 : Nat) (gC enF g.1))) true (Ob.cells true)) (bs g.3) ≤ (16777216 : Nat)))))) ∧
     (br (decide ((0 : Int) ≤ (↑(0 : Nat) : Int) ∧ (0 : Int) ≤ Int.ofNat g.2 ∧ Int.ofNat g.2 ≤ (↑(g.2 + (80 : Nat)) : Int)))
      ((((((0 : Nat) + (Int.toNat (Int.ofNat g.2) - (0 : Nat)) * (2 : Nat) ≤ List.length (roomF (Row.mk (List.take (g.2 * (2 : Nat)) (List.drop (0 : Nat) (gC enF g.1))) true (Ob.cells true)) (ByteArray.mk #[(109 : UInt8)]) (ByteArray.mk #[])) ∧ Plain (List.take ((Int.toNat (Int.ofNat g.2) - (0 : Nat)) * (2 : Nat)) (List.drop (0 : Nat) (roomF (Row.mk (List.take (g.2 * (2 : Nat)) (List.drop (0 : Nat) (gC enF g.1))) true (Ob.cells true)) (ByteArray.mk #[(109 : UInt8)]) (ByteArray.mk #[]))))) ∧ (True ∧ True)) ∧ ((Plain (prC (Row.mk (List.take ((Int.toNat (Int.ofNat g.2) - (0 : Nat)) * (2 : Nat)) (List.drop (0 : Nat) (roomF (Row.mk (List.take (g.2 * (2 : Nat)) (List.drop (0 : Nat) (gC enF g.1))) true (Ob.cells true)) (ByteArray.mk #[(109 : UInt8)]) (ByteArray.mk #[])))) true (Ob.cells true)) (bs g.3)) ∧ True) ∧ (IsF (Row.mk (List.take ((Int.toNat (Int.ofNat g.2) - (0 : Nat)) * (2 : Nat)) (List.drop (0 : Nat) (roomF (Row.mk (List.take (g.2 * (2 : Nat)) (List.drop (0 : Nat) (gC enF g.1))) true (Ob.cells true)) (ByteArray.mk #[(109 : UInt8)]) (ByteArray.mk #[])))) true (Ob.cells true)) (Int.toNat (Int.ofNat g.2) - (0 : Nat)) ∧ (Int.toNat (Int.ofNat g.2) - (0 : Nat) ≤ (9223372036854775807 : Nat) ∧ alB (Row.mk (List.take ((Int.toNat (Int.ofNat g.2) - (0 : Nat)) * (2 : Nat)) (List.drop (0 : Nat) (roomF (Row.mk (List.take (g.2 * (2 : Nat)) (List.drop (0 : Nat) (gC enF g.1))) true (Ob.cells true)) (ByteArray.mk #[(109 : UInt8)]) (ByteArray.mk #[])))) true (Ob.cells true)) (bs g.3) ≤ (16777000 : Nat)))))) ∧
      ((((((0 : Nat) + g.2 * (2 : Nat) ≤ List.length (gC enF g.1) ∧ Plain (List.take (g.2 * (2 : Nat)) (List.drop (0 : Nat) (gC enF g.1)))) ∧ (True ∧ True)) ∧ ((Plain (prC (Row.mk (List.take (g.2 * (2 : Nat)) (List.drop (0 : Nat) (gC enF g.1))) true (Ob.cells true)) (bs g.3)) ∧ True) ∧ (IsF (Row.mk (List.take (g.2 * (2 : Nat)) (List.drop (0 : Nat) (gC enF g.1))) true (Ob.cells true)) g.2 ∧ (g.2 ≤ (9223372036854775807 : Nat) ∧ alB (Row.mk (List.take (g.2 * (2 : Nat)) (List.drop (0 : Nat) (gC enF g.1))) true (Ob.cells true)) (bs g.3) ≤ (16777000 : Nat)))))) ∧
      (br (!strEq (alV (Row.mk (List.take ((Int.toNat (Int.ofNat g.2) - (0 : Nat)) * (2 : Nat)) (List.drop (0 : Nat) (roomF (Row.mk (List.take (g.2 * (2 : Nat)) (List.drop (0 : Nat) (gC enF g.1))) true (Ob.cells true)) (ByteArray.mk #[(109 : UInt8)]) (ByteArray.mk #[])))) true (Ob.cells true)) (bs g.3)) (alV (Row.mk (List.take (g.2 * (2 : Nat)) (List.drop (0 : Nat) (gC enF g.1))) true (Ob.cells true)) (bs g.3)))
       ((true = false) ∧
       ((Eq (α := List Value) (gC enF l) (gC enF g.1)) ∧
       ((Plain (gC enF l)) ∧
       True)))
       (br (alN (Row.mk (List.take ((Int.toNat (Int.ofNat g.2) - (0 : Nat)) * (2 : Nat)) (List.drop (0 : Nat) (roomF (Row.mk (List.take (g.2 * (2 : Nat)) (List.drop (0 : Nat) (gC enF g.1))) true (Ob.cells true)) (ByteArray.mk #[(109 : UInt8)]) (ByteArray.mk #[])))) true (Ob.cells true)) (bs g.3) != alN (Row.mk (List.take (g.2 * (2 : Nat)) (List.drop (0 : Nat) (gC enF g.1))) true (Ob.cells true)) (bs g.3))
        ((true = false) ∧
        ((Eq (α := List Value) (gC enF l) (gC enF g.1)) ∧
        ((Plain (gC enF l)) ∧
        True)))
        (br (Int.ofNat (prN (Row.mk (List.take ((Int.toNat (Int.ofNat g.2) - (0 : Nat)) * (2 : Nat)) (List.drop (0 : Nat) (roomF (Row.mk (List.take (g.2 * (2 : Nat)) (List.drop (0 : Nat) (gC enF g.1))) true (Ob.cells true)) (ByteArray.mk #[(109 : UInt8)]) (ByteArray.mk #[])))) true (Ob.cells true)) (bs g.3)) != Int.ofNat (prN (Row.mk (List.take (g.2 * (2 : Nat)) (List.drop (0 : Nat) (gC enF g.1))) true (Ob.cells true)) (bs g.3)))
         ((true = false) ∧
         ((Eq (α := List Value) (gC enF l) (gC enF g.1)) ∧
         ((Plain (gC enF l)) ∧
         True)))
         (∃ g2 : GTf, ((g2.2 ≤ (20 : Nat) ∧ g2.2 ≤ List.length g2.1 ∧ List.length (pp g2) ≤ (16777216 : Nat)) ∧
         (((0 : Nat) = (0 : Nat)) ∧
         ((g2.2 = g.2) ∧
         (((0 : Nat) = (0 : Nat)) ∧
         ((g2.2 + (80 : Nat) = g.2 + (80 : Nat)) ∧
         (((0 : Nat) = (0 : Nat)) ∧
         ((List.length (pp g2) = prN (Row.mk (List.take ((Int.toNat (Int.ofNat g.2) - (0 : Nat)) * (2 : Nat)) (List.drop (0 : Nat) (roomF (Row.mk (List.take (g.2 * (2 : Nat)) (List.drop (0 : Nat) (gC enF g.1))) true (Ob.cells true)) (ByteArray.mk #[(109 : UInt8)]) (ByteArray.mk #[])))) true (Ob.cells true)) (bs g.3)) ∧
         (((0 : Nat) = (0 : Nat)) ∧
         ((List.length (pp g2) = prN (Row.mk (List.take (g.2 * (2 : Nat)) (List.drop (0 : Nat) (gC enF g.1))) true (Ob.cells true)) (bs g.3)) ∧
         (((0 : Int) = (0 : Int)) ∧
         ((Eq (α := List Value) (gC enF g2.1) (gC enF g.1)) ∧
         ((Plain (gC enF g2.1)) ∧
         ((Eq (α := List Value) (gC enF (fr80 (tkf g2))) (roomF (Row.mk (List.take (g.2 * (2 : Nat)) (List.drop (0 : Nat) (gC enF g.1))) true (Ob.cells true)) (ByteArray.mk #[(109 : UInt8)]) (ByteArray.mk #[]))) ∧
         ((Plain (gC enF (fr80 (tkf g2)))) ∧
         ((Eq (α := List Value) (gC enP (pp g2)) (prC (Row.mk (List.take ((Int.toNat (Int.ofNat g.2) - (0 : Nat)) * (2 : Nat)) (List.drop (0 : Nat) (roomF (Row.mk (List.take (g.2 * (2 : Nat)) (List.drop (0 : Nat) (gC enF g.1))) true (Ob.cells true)) (ByteArray.mk #[(109 : UInt8)]) (ByteArray.mk #[])))) true (Ob.cells true)) (bs g.3))) ∧
         ((Plain (gC enP (pp g2))) ∧
         ((Eq (α := List Value) (gC enP (pp g2)) (prC (Row.mk (List.take (g.2 * (2 : Nat)) (List.drop (0 : Nat) (gC enF g.1))) true (Ob.cells true)) (bs g.3))) ∧
         ((Plain (gC enP (pp g2))) ∧
         (∀ (y2 : Unit), ((True) →
         ((((((0 : Nat) + (g2.2 + (80 : Nat)) * (2 : Nat) ≤ List.length (gC enF (fr80 (tkf g2))) ∧ Plain (List.take ((g2.2 + (80 : Nat)) * (2 : Nat)) (List.drop (0 : Nat) (gC enF (fr80 (tkf g2)))))) ∧ (((0 : Nat) + g2.2 * (2 : Nat) ≤ List.length (gC enF g2.1) ∧ Plain (List.take (g2.2 * (2 : Nat)) (List.drop (0 : Nat) (gC enF g2.1)))) ∧ ((True ∧ (True ∧ True)) ∧ True))) ∧ (True ∧ (IsF (Row.mk (List.take ((g2.2 + (80 : Nat)) * (2 : Nat)) (List.drop (0 : Nat) (gC enF (fr80 (tkf g2))))) true (Ob.cells true)) (g2.2 + (80 : Nat)) ∧ (IsF (Row.mk (List.take (g2.2 * (2 : Nat)) (List.drop (0 : Nat) (gC enF g2.1))) true (Ob.cells true)) g2.2 ∧ (g2.2 + (80 : Nat) ≤ (9223372036854775807 : Nat) ∧ g2.2 ≤ (16777136 : Nat))))))) ∧
         (br (intF (Row.mk (List.take ((g2.2 + (80 : Nat)) * (2 : Nat)) (List.drop (0 : Nat) (gC enF (fr80 (tkf g2))))) true (Ob.cells true)) (Row.mk (List.take (g2.2 * (2 : Nat)) (List.drop (0 : Nat) (gC enF g2.1))) true (Ob.cells true)) (ByteArray.mk #[(109 : UInt8)]) (ByteArray.mk #[]))
          (((True ∧ (True ∧ True))) ∧
          ((true = true) ∧
          ((Eq (α := List Value) (gC enF l) (gC enF g2.1)) ∧
          ((Plain (gC enF l)) ∧
          True))))
          ((true = false) ∧
          ((Eq (α := List Value) (gC enF l) (gC enF g2.1)) ∧
          ((Plain (gC enF l)) ∧
          True)))))))))))))))))))))))))))))))
      False)))
     False))))
    (∀ (y : Unit), ((True) →
    ((true = true) ∧
    ((Eq (α := List Value) (gC enF l) (gC enF g.1)) ∧
    ((Plain (gC enF l)) ∧
    True)))))))))))))))) := by kernel_rfl
theorem cTf_ok : ∀ f a rows p v news, cTf f a rows = some (p, v, news) → p → Con Try.prog f a rows v (rows ++ news) := by
  intro f a rows p v news h hp
  have e : ∀ l, decF (gRo enF l).cells = l := fun l => decF_gC l
  unfold cTf at h
  split at h <;> simp only [Option.some.injEq, Prod.mk.injEq, reduceCtorEq] at h <;> obtain ⟨rfl, rfl, rfl⟩ := h
  · obtain ⟨⟨l, rfl, rfl⟩, h1, h2⟩ := hp
    simp only [alV, alN, alB, e, List.append_nil] at h2 ⊢
    exact Al_con l (L _) h1 h2
  · obtain ⟨⟨l, rfl, rfl⟩, h1, h2⟩ := hp
    simp only [alV, alN, alB, e, List.append_nil] at h2 ⊢
    exact Ra_con l (L _) h1 h2
  · obtain ⟨⟨l, rfl, rfl⟩, h1, h2⟩ := hp
    simp only [prN, prC, prL, alB, e] at h2 ⊢
    exact Pa_con l (L _) h1 h2
  · obtain ⟨⟨l, rfl, rfl⟩, h1, h2⟩ := hp
    simp only [prN, prC, prL, alB, e] at h2 ⊢
    exact Rp_con l (L _) h1 h2
  · obtain ⟨⟨l, rfl, rfl⟩, hl⟩ := hp
    simp only [roomF, e]
    exact fb.roomy_con l ⟨L _, L _⟩ hl
  · obtain ⟨⟨x, rfl, rfl⟩, ⟨y, rfl, rfl⟩, h1, h2⟩ := hp
    simp only [intF, e, List.append_nil]
    exact fb.int_con x y ⟨L _, L _⟩ h1 (by omega)
  · exact con_run mixed (n := 1000000) (by kernel_rfl) (by kernel_rfl)
theorem Tf1_piece : PieceOk ETf 1 (4, pTf1, specTf1) := by
  refine piece_loop mixed (calls_envC cTf_ok) (lok_envC _ _ _) lm_none (n := 60) (by kernel_rfl) (fun g : GTf => (0 : Nat)) (fun g i => i ≤ g.n ∧ v300 (g.l.take i)) (fun g i => g.n - i) (sl := slTf1) (rl := fun g _ => rlTf1 g) (fun g hg => ⟨Nat.zero_le _, fun f hf => by simp at hf⟩) (fun g i hg hi => ?_)
  refine (Tf1_round g i _ _).mpr ?_
  obtain ⟨g1, g2⟩ := hg
  obtain ⟨h1, h2⟩ := hi
  simp only [ofNat_eq, toNat_cast, Nat.zero_add, Nat.add_zero, Nat.mul_one, List.drop_zero, bCells_len, bCells_drop, bCells_take, bCells_app, bCells_one, bCells_plain, List.length_replicate, List.length_append, List.length_take, List.length_drop, List.take_length, and_true, true_and, and_self, decide_true, List.length_nil, List.length_cons, Nat.sub_zero, dB_mk, dB_ro, List.take_zero, fPl, bs_d]
  refine br_if (fun h => br_dec (by omega) ?_) (fun h => ⟨(), ?_⟩)
  rotate_left
  · have : i = g.n := by omega
    subst this; exact h2
  have hi : i < g.l.length := by omega
  obtain ⟨c1, c2, c3, c4⟩ := fGet g.l i hi
  have w := i64_succ (show i < 9223372036854775807 by omega)
  simp only [c1, c2, c3, c4, bs_d, w, true_and]
  refine br_if (fun k => ?_) (fun k => ⟨i + 1, ⟨by omega, ?_⟩, by omega, rfl⟩)
  · exact ⟨(), trivial⟩
  · intro f hf
    rw [List.take_succ_eq_append_getElem hi] at hf
    rcases List.mem_append.1 hf with hf | hf
    · exact h2 f hf
    · simp at hf; subst hf; omega
theorem Tf2_piece : PieceOk ETf 1 (4, pTf2, specTf2) := by
  refine piece_loop mixed (calls_envC cTf_ok) (lok_envC _ _ _) lm_none (n := 60) (by kernel_rfl) (fun g : GTf => (0 : Nat)) (fun g i => i ≤ (pp g).length) (fun g i => (pp g).length - i) (sl := slTf2) (rl := fun g _ => rlTf2 g) (fun g hg => Nat.zero_le _) (fun g i hg hi => ?_)
  refine (Tf2_round g i _ _).mpr ?_
  obtain ⟨g1, g2, g3⟩ := hg
  simp only [ofNat_eq, toNat_cast, Nat.zero_add, Nat.add_zero, Nat.mul_one, List.drop_zero, bCells_len, bCells_drop, bCells_take, bCells_app, bCells_one, bCells_plain, List.length_replicate, List.length_append, List.length_take, List.length_drop, List.take_length, and_true, true_and, and_self, decide_true, List.length_nil, List.length_cons, Nat.sub_zero, dB_mk, dB_ro, List.take_zero, fPl, pPl, bs_d]
  refine br_if (fun h => br_dec (by omega) ?_) (fun h => ⟨(), by simp⟩)
  have hi : i < (pp g).length := by omega
  obtain ⟨c1, c2, c3, c4, c5, c6⟩ := pGet (pp g) i hi
  have w := i64_succ (show i < 9223372036854775807 by omega)
  simp only [c1, c2, c3, c4, c5, c6, strEq_bs, w, true_and]
  exact br_dec (by omega) (br_nb (by simp) (br_dec (by omega) (br_dec (by omega) (br_nb (by simp) (br_dec (by omega) (br_dec (by omega) (br_nb (by simp) ⟨i + 1, by omega, by omega, rfl⟩)))))))
theorem allS_300 (nm : List UInt8) : ∀ (l : List Fl) (acc : List UInt8) (k : Nat), v300 l → (allS nm l acc k).length ≤ acc.length + 302 * l.length
  | [], acc, k, _ => by simp [allS]
  | f :: l, acc, k, h => by
    have h1 := h f (by simp)
    have h2 : v300 l := fun x hx => h x (by simp [hx])
    rw [allS, List.length_cons]
    split
    · have := allS_300 nm l (acc ++ (if k = 0 then [] else [44, 32]) ++ f.v) (k + 1) h2
      have h3 : (if k = 0 then ([] : List UInt8) else [44, 32]).length ≤ 2 := by split <;> simp
      simp only [List.length_append] at this; omega
    · have := allS_300 nm l acc k h2; omega
theorem tf_law (l : List Fl) (nm : ByteArray) (hl : l.length ≤ maxLen) (hf : ∀ f ∈ l, f.n.length ≤ maxLen ∧ f.v.length ≤ maxLen) (hn : nm.size ≤ maxLen) :
    Con Try.prog 4 [.slice (some ⟨0, 0, none⟩) l.length 2, .string nm] [gRo enF l] (.bool true) [gRo enF l] := by
  obtain ⟨nm, rfl⟩ : ∃ l, nm = bs l := ⟨L nm, rfl⟩
  refine con_vc (E := ETf) mixed (calls_envC cTf_ok) (lok_envC _ _ _) (M := mTf) (lm_two Tf1_piece Tf2_piece) (Tf_vc l nm) ?_
  have hm : maxLen = 9223372036854775807 := by unfold maxLen; rfl
  have mk_bs' : ∀ a : Array UInt8, ByteArray.mk a = bs a.toList := fun a => rfl
  refine br_if (fun h => br_dec (by have h : (l.length : Int) > 20 := h; omega) ?_) (fun h => ?_)
  · obtain ⟨n, hn1⟩ : ∃ n, n = 20 := ⟨_, rfl⟩
    have hn2 : n ≤ 20 := by omega
    have h : (l.length : Int) > 20 := h
    have hn3 : n ≤ l.length := by omega
    refine ⟨⟨l, n, nm⟩, ⟨by simp only; omega, by simp only; omega⟩, rfl, by simp only; omega, rfl, rfl, rfl, fPl _, br_side (fun _ h3 => ?_) (fun _ _ => ?_)⟩
    clear hn1
    · have hq : (l.take n).length = n := by simp; omega
      have h3 : v300 (l.take n) := h3
      have ha := allS_300 nm (l.take n) [] 0 h3
      have ha : (allL (l.take n) nm).length ≤ 302 * n := by unfold allL; rw [hq] at ha; simpa using ha
      have t1 : (gC enF l).take (n * 2) = gC enF (l.take n) := gC_take enF_k l n
      have tkd : tkf ⟨l, n, nm⟩ = l.take n := rfl
      have ppd : pp ⟨l, n, nm⟩ = pairsL (l.take n) nm := rfl
      have hp := pairs_len (l.take n) nm
      have r1 : ∀ b o, roomF ⟨gC enF (l.take n), b, o⟩ (bs [109]) (bs []) = gC enF (fr80 (l.take n)) := fun b o => by unfold roomF fr80; simp only; rw [decF_gC]; rfl
      have r2 : (fr80 (l.take n)).length = n + 80 := by unfold fr80; simp; omega
      have r3 : (gC enF (fr80 (l.take n))).take (n * 2) = gC enF (l.take n) := by
        rw [gC_take enF_k]; unfold fr80; rw [List.take_append_of_le_length (by omega), List.take_of_length_le (by omega)]
      have r4 : (gC enF (fr80 (l.take n))).take ((n + 80) * 2) = gC enF (fr80 (l.take n)) := by rw [← r2]; exact fTake _
      have r5 : ∀ b o, alV ⟨gC enF (l.take n), b, o⟩ (bs nm) = bs (allL (l.take n) nm) := fun b o => by unfold alV; simp only; rw [decF_gC, L_bs]
      have r6 : ∀ b o, alB ⟨gC enF (l.take n), b, o⟩ (bs nm) = (allL (l.take n) nm).length := fun b o => by unfold alB; simp only; rw [decF_gC, L_bs]
      have r7 : ∀ b o, prN ⟨gC enF (l.take n), b, o⟩ (bs nm) = (pairsL (l.take n) nm).length := fun b o => by unfold prN prL; simp only; rw [decF_gC, L_bs]
      have r8 : ∀ b o, prC ⟨gC enF (l.take n), b, o⟩ (bs nm) = gC enP (pairsL (l.take n) nm) := fun b o => by unfold prC prL; simp only; rw [decF_gC, L_bs]
      have r9 : ∀ b o b' o', intF ⟨gC enF (fr80 (l.take n)), b, o⟩ ⟨gC enF (l.take n), b', o'⟩ (bs [109]) (bs []) = true := fun b o b' o' => by
        unfold intF; simp only; rw [decF_gC, decF_gC]
        exact fb.sameSe_yes rfl
      have ra : ∀ b o, alN ⟨gC enF (l.take n), b, o⟩ (bs nm) = (allN nm (l.take n) : Nat) := fun b o => by unfold alN; simp only; rw [decF_gC, L_bs]
      simp only [ofNat_eq, toNat_cast, Nat.zero_add, Nat.add_zero, Nat.mul_one, List.drop_zero, bCells_len, bCells_drop, bCells_take, bCells_app, bCells_one, bCells_plain, List.length_replicate, List.length_append, List.length_take, List.length_drop, List.take_length, and_true, true_and, and_self, decide_true, List.length_nil, List.length_cons, Nat.sub_zero, dB_mk, dB_ro, List.take_zero, bs_d, fPl, fLen, pPl, pLen, mk_bs', t1, r1, r2, r3, r4, r5, r6, r7, r8, r9, ra, strEq_bs, bs_len, hq, tkd, ppd]
      refine ⟨⟨by omega, isF_mk _ _ hq.symm, by omega⟩, br_dec (by omega) ⟨⟨by omega, isF_mk _ _ hq.symm, by omega, by omega⟩, ⟨by omega, isF_mk _ _ hq.symm, by omega, by omega⟩, br_dec (by omega) ⟨⟨by omega, isF_mk _ _ hq.symm, by omega, by omega⟩, ⟨by omega, isF_mk _ _ hq.symm, by omega, by omega⟩, br_nb rfl (br_nb (by simp) (br_nb (by simp) ⟨⟨l, n, nm⟩, ⟨hn2, hn3, ?_⟩, rfl, rfl, rfl, rfl, rfl, rfl, rfl, rfl, fun _ _ => ?_⟩))⟩⟩⟩
      · rw [ppd]; omega
      · simp only [tkd, r2, r4, t1, r9, fPl, and_true]
        exact ⟨⟨⟨by omega, by omega⟩, isF_mk _ _ r2.symm, isF_mk _ _ hq.symm, by omega, by omega⟩, br_b rfl trivial⟩
    · exact ⟨rfl, rfl, fPl _, trivial⟩
  · obtain ⟨n, hn1⟩ : ∃ n, n = l.length := ⟨_, rfl⟩
    have h : ¬ (l.length : Int) > 20 := h
    have hn2 : n ≤ 20 := by omega
    have hn3 : n ≤ l.length := by omega
    refine ⟨⟨l, n, nm⟩, ⟨by simp only; omega, by simp only; omega⟩, rfl, by simp only; omega, rfl, rfl, rfl, fPl _, br_side (fun _ h3 => ?_) (fun _ _ => ?_)⟩
    clear hn1
    · have hq : (l.take n).length = n := by simp; omega
      have h3 : v300 (l.take n) := h3
      have ha := allS_300 nm (l.take n) [] 0 h3
      have ha : (allL (l.take n) nm).length ≤ 302 * n := by unfold allL; rw [hq] at ha; simpa using ha
      have t1 : (gC enF l).take (n * 2) = gC enF (l.take n) := gC_take enF_k l n
      have tkd : tkf ⟨l, n, nm⟩ = l.take n := rfl
      have ppd : pp ⟨l, n, nm⟩ = pairsL (l.take n) nm := rfl
      have hp := pairs_len (l.take n) nm
      have r1 : ∀ b o, roomF ⟨gC enF (l.take n), b, o⟩ (bs [109]) (bs []) = gC enF (fr80 (l.take n)) := fun b o => by unfold roomF fr80; simp only; rw [decF_gC]; rfl
      have r2 : (fr80 (l.take n)).length = n + 80 := by unfold fr80; simp; omega
      have r3 : (gC enF (fr80 (l.take n))).take (n * 2) = gC enF (l.take n) := by
        rw [gC_take enF_k]; unfold fr80; rw [List.take_append_of_le_length (by omega), List.take_of_length_le (by omega)]
      have r4 : (gC enF (fr80 (l.take n))).take ((n + 80) * 2) = gC enF (fr80 (l.take n)) := by rw [← r2]; exact fTake _
      have r5 : ∀ b o, alV ⟨gC enF (l.take n), b, o⟩ (bs nm) = bs (allL (l.take n) nm) := fun b o => by unfold alV; simp only; rw [decF_gC, L_bs]
      have r6 : ∀ b o, alB ⟨gC enF (l.take n), b, o⟩ (bs nm) = (allL (l.take n) nm).length := fun b o => by unfold alB; simp only; rw [decF_gC, L_bs]
      have r7 : ∀ b o, prN ⟨gC enF (l.take n), b, o⟩ (bs nm) = (pairsL (l.take n) nm).length := fun b o => by unfold prN prL; simp only; rw [decF_gC, L_bs]
      have r8 : ∀ b o, prC ⟨gC enF (l.take n), b, o⟩ (bs nm) = gC enP (pairsL (l.take n) nm) := fun b o => by unfold prC prL; simp only; rw [decF_gC, L_bs]
      have r9 : ∀ b o b' o', intF ⟨gC enF (fr80 (l.take n)), b, o⟩ ⟨gC enF (l.take n), b', o'⟩ (bs [109]) (bs []) = true := fun b o b' o' => by
        unfold intF; simp only; rw [decF_gC, decF_gC]
        exact fb.sameSe_yes rfl
      have ra : ∀ b o, alN ⟨gC enF (l.take n), b, o⟩ (bs nm) = (allN nm (l.take n) : Nat) := fun b o => by unfold alN; simp only; rw [decF_gC, L_bs]
      simp only [ofNat_eq, toNat_cast, Nat.zero_add, Nat.add_zero, Nat.mul_one, List.drop_zero, bCells_len, bCells_drop, bCells_take, bCells_app, bCells_one, bCells_plain, List.length_replicate, List.length_append, List.length_take, List.length_drop, List.take_length, and_true, true_and, and_self, decide_true, List.length_nil, List.length_cons, Nat.sub_zero, dB_mk, dB_ro, List.take_zero, bs_d, fPl, fLen, pPl, pLen, mk_bs', t1, r1, r2, r3, r4, r5, r6, r7, r8, r9, ra, strEq_bs, bs_len, hq, tkd, ppd]
      refine ⟨⟨by omega, isF_mk _ _ hq.symm, by omega⟩, br_dec (by omega) ⟨⟨by omega, isF_mk _ _ hq.symm, by omega, by omega⟩, ⟨by omega, isF_mk _ _ hq.symm, by omega, by omega⟩, br_dec (by omega) ⟨⟨by omega, isF_mk _ _ hq.symm, by omega, by omega⟩, ⟨by omega, isF_mk _ _ hq.symm, by omega, by omega⟩, br_nb rfl (br_nb (by simp) (br_nb (by simp) ⟨⟨l, n, nm⟩, ⟨hn2, hn3, ?_⟩, rfl, rfl, rfl, rfl, rfl, rfl, rfl, rfl, fun _ _ => ?_⟩))⟩⟩⟩
      · rw [ppd]; omega
      · simp only [tkd, r2, r4, t1, r9, fPl, and_true]
        exact ⟨⟨⟨by omega, by omega⟩, isF_mk _ _ r2.symm, isF_mk _ _ hq.symm, by omega, by omega⟩, br_b rfl trivial⟩
    · exact ⟨rfl, rfl, fPl _, trivial⟩
end Go.Proofs.Ytllpeacofilbcaa.tk
