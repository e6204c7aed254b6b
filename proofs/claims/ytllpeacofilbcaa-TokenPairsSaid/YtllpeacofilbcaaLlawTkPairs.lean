/- The law: names and values that are written as a list come as pairs, in order, the names lowered. -/
import Derived.Test.YtllpeacofilbcaaSz9
import Derived.Test.YtllpeacofilbcaaRows
import Derived.Test.YtllpeacofilbcaaLtkToken
import Derived.Test.YtllpeacofilbcaaLtkLower
import Derived.Test.YtllpeacofilbcaaLtkPairs
import Derived.Test.YtllpeacofilbcaaLtkShort
import Derived.Test.YtllpeacofilbcaaLtkfacts
import Derived.Test.YtllpeacofilbcaaLquot
import Derived.Test.YtllpeacofilbcaaLbools
import Derived.Test.YtllpeacofilbcaaLjoin
import Derived.Test.YtllpeacofilbcaaLbrt
set_option linter.unusedSimpArgs false
set_option linter.unusedVariables false
namespace Go.Proofs.Ytllpeacofilbcaa.tk
open Go Go.Ev Go.Sy Go.RowKit Go.Proofs.Ytllpeacofilbcaa.gl
def cTp : FuncId → List Value → List Row → Option (Prop × Value × List Row)
  | 21, [.string s], [] => some ((L s).length ≤ maxLen, .bool (tokS s), [])
  | 22, [.string s], [] => some ((L s).length ≤ maxLen, .string (lowS s), [])
  | 20, [.string s], [] => some ((L s).length ≤ maxLen, .string (shortS s), [])
  | 19, [.string s], [] => some ((L s).length ≤ 1000, .tuple #[.string (quoS s), .bool (quoB s)], [])
  | 16, [.slice (some ⟨0, 0, none⟩) n 2, .string s], [r0] => some (IsF r0 n ∧ n ≤ maxLen ∧ alB r0 s ≤ 16777000, .slice (some ⟨1, 0, none⟩) (prN r0 s) 3, [⟨prC r0 s, false, .cells true⟩])
  | 3, [], [] => some (True, .bool true, [])
  | _, _, _ => none
def kTp (f : FuncId) : Bool := Nat.beq f 21 || Nat.beq f 22 || Nat.beq f 20 || Nat.beq f 19 || Nat.beq f 16 || Nat.beq f 3
noncomputable abbrev ETp : Env := envC Try.prog cTp kTp
structure It where
  t : List UInt8
  p : Pr
def ItOk (x : It) : Prop := ∃ n v, tokL n = true ∧ x.p.n = lowerL n ∧ x.p.v = v ∧ ((x.t = n ∧ v = [] ∧ x.p.h = false) ∨ (x.p.h = true ∧ ((okQ v = true ∧ x.t = n ++ 61 :: quoL v) ∨ (tokL v = true ∧ x.t = n ++ 61 :: v))))
def joinP (l : List It) : List UInt8 := l.flatMap fun x => x.t ++ [44, 32]
def wantP (l : List It) : List Pr := l.map It.p
structure GTp where
  l : List (List UInt8)
  v : List (List UInt8)
  q : List Bool
structure StTp where
  line : List UInt8
  want : List Pr
  i : Nat
  its : List It
def pTp : List Nat := [0, 1, 0, 1, 1, 1]
def slTp (g : GTp) (s : StTp) : List (Nat × Value) := [(0, .slice (some ⟨0, 0, none⟩) g.l.length 1), (1, .slice (some ⟨1, 0, none⟩) g.v.length 1), (2, .slice (some ⟨2, 0, none⟩) g.q.length 1), (7, .string (bs s.line)), (8, .slice (some ⟨3, 0, none⟩) s.want.length 3), (9, .int .i64 (s.i : Nat))]
def rlTp (g : GTp) (s : StTp) : List (Nat × Row) := [(0, gRo enS g.l), (1, gRo enS g.v), (2, gRo enB g.q), (3, gOwn enP s.want)]
def wsTp (g : GTp) : List (Gate StTp) := [⟨.exit 0, fun s => s.line = joinP s.its ∧ s.want = wantP s.its ∧ s.line.length ≤ 10900 ∧ s.want.length ≤ 12 ∧ (∀ x ∈ s.its, ItOk x), fun s => [(7, .string (bs s.line)), (8, .slice (some ⟨3, 0, none⟩) s.want.length 3)], fun s => [(0, gRo enS g.l), (1, gRo enS g.v), (2, gRo enB g.q), (3, gOwn enP s.want)], 4⟩]
def specTp : Sy.Spec := specOf 3 4 114 (fun g : GTp => g.l.length ≤ maxLen ∧ (∀ x ∈ g.l, x.length ≤ maxLen) ∧ g.v.length ≤ maxLen ∧ (∀ x ∈ g.v, x.length ≤ maxLen) ∧ g.q.length ≤ maxLen) (fun g => slTp g ⟨[], [], 0, []⟩) (fun g => rlTp g ⟨[], [], 0, []⟩) wsTp
def pTq : List Nat := [0, 1, 0, 1, 1, 1, 1, 1, 1]
structure GTq where
  g : GTp
  w : List Pr
def slTq (g : GTq) (i : Nat) : List (Nat × Value) := [(8, .slice (some ⟨3, 0, none⟩) g.w.length 3), (15, .slice (some ⟨4, 0, none⟩) g.w.length 3), (16, .int .i64 (i : Nat))]
def rlTq (g : GTq) : List (Nat × Row) := [(0, gRo enS g.g.l), (1, gRo enS g.g.v), (2, gRo enB g.g.q), (3, gOwn enP g.w), (4, gOwn enP g.w)]
def wsTq (g : GTq) : List (Gate Unit) := [⟨.exit 2, fun _ => True, fun _ => [], fun _ => [(0, gRo enS g.g.l), (1, gRo enS g.g.v), (2, gRo enB g.g.q)], 3⟩]
def specTq : Sy.Spec := specOf 3 5 114 (fun g : GTq => g.w.length ≤ 100) (fun g => slTq g 0) rlTq wsTq
def mTp := mOf [(8, pTp, specTp), (8, pTq, specTq)]
theorem Tp_round (g : GTp) (s : StTp) (Inv : StTp → Prop) (m : StTp → Nat) : mev ETp noM 60 8 (0 :: pTp) false (codeOf Try.prog 8 (0 :: pTp)) ⟨mkOv (slTp g s), 114, []⟩ none ⟨mkR (rlTp g s), 4⟩ (roundK 3 4 114 Inv m (slTp g) (rlTp g) (wsTp g) s) =
  (br (decide ((↑s.3 : Int) < Int.ofNat (List.length g.1)))
   (br (decide ((↑s.3 : Int) < (12 : Int)))
    (br (decide ((0 : Int) ≤ (↑s.3 : Int) ∧ (↑s.3 : Int) < (↑(List.length g.1) : Int)))
     ((Eq (α := Option Value) ((gC enS g.1)[(0 : Nat) + Int.toNat (↑s.3 : Int) * (1 : Nat)]?) (some (Value.string (cellS (gC enS g.1) ((0 : Nat) + Int.toNat (↑s.3 : Int) * (1 : Nat)))))) ∧
     ((((True ∧ True) ∧ (True ∧ List.length (L (cellS (gC enS g.1) ((0 : Nat) + Int.toNat (↑s.3 : Int) * (1 : Nat)))) ≤ (9223372036854775807 : Nat)))) ∧
     ((((True ∧ True) ∧ (True ∧ List.length (L (shortS (cellS (gC enS g.1) ((0 : Nat) + Int.toNat (↑s.3 : Int) * (1 : Nat))))) ≤ (9223372036854775807 : Nat)))) ∧
     (br (!tokS (shortS (cellS (gC enS g.1) ((0 : Nat) + Int.toNat (↑s.3 : Int) * (1 : Nat)))))
      (∃ j : StTp, ((Inv j) ∧
      ((m j < m s) ∧
      (((0 : Nat) = (0 : Nat)) ∧
      ((List.length g.1 = List.length g.1) ∧
      (((0 : Nat) = (0 : Nat)) ∧
      ((List.length g.2 = List.length g.2) ∧
      (((0 : Nat) = (0 : Nat)) ∧
      ((List.length g.3 = List.length g.3) ∧
      ((bs j.1 = bs s.1) ∧
      (((0 : Nat) = (0 : Nat)) ∧
      ((List.length j.2 = List.length s.2) ∧
      (((↑j.3 : Int) = IntKind.wrap IntKind.i64 ((↑s.3 : Int) + (1 : Int))) ∧
      ((Eq (α := List Value) (gC enS g.1) (gC enS g.1)) ∧
      ((Plain (gC enS g.1)) ∧
      ((Eq (α := List Value) (gC enS g.2) (gC enS g.2)) ∧
      ((Plain (gC enS g.2)) ∧
      ((Eq (α := List Value) (gC enB g.3) (gC enB g.3)) ∧
      ((Plain (gC enB g.3)) ∧
      ((Eq (α := List Value) (gC enP j.2) (gC enP s.2)) ∧
      ((Plain (gC enP j.2)) ∧
      True)))))))))))))))))))))
      ((((True ∧ True) ∧ (True ∧ List.length (L (shortS (cellS (gC enS g.1) ((0 : Nat) + Int.toNat (↑s.3 : Int) * (1 : Nat))))) ≤ (9223372036854775807 : Nat)))) ∧
      (br (decide ((↑s.3 : Int) < Int.ofNat (List.length g.2)))
       (br (decide ((0 : Int) ≤ (↑s.3 : Int) ∧ (↑s.3 : Int) < (↑(List.length g.2) : Int)))
        ((Eq (α := Option Value) ((gC enS g.2)[(0 : Nat) + Int.toNat (↑s.3 : Int) * (1 : Nat)]?) (some (Value.string (cellS (gC enS g.2) ((0 : Nat) + Int.toNat (↑s.3 : Int) * (1 : Nat)))))) ∧
        ((((True ∧ True) ∧ (True ∧ List.length (L (cellS (gC enS g.2) ((0 : Nat) + Int.toNat (↑s.3 : Int) * (1 : Nat)))) ≤ (9223372036854775807 : Nat)))) ∧
        ((((True ∧ True) ∧ (True ∧ List.length (L (shortS (cellS (gC enS g.2) ((0 : Nat) + Int.toNat (↑s.3 : Int) * (1 : Nat))))) ≤ (1000 : Nat)))) ∧
        (br (decide ((↑s.3 : Int) < Int.ofNat (List.length g.3)))
         (br (decide ((0 : Int) ≤ (↑s.3 : Int) ∧ (↑s.3 : Int) < (↑(List.length g.3) : Int)))
          ((Eq (α := Option Value) ((gC enB g.3)[(0 : Nat) + Int.toNat (↑s.3 : Int) * (1 : Nat)]?) (some (Value.bool (cellB (gC enB g.3) ((0 : Nat) + Int.toNat (↑s.3 : Int) * (1 : Nat)))))) ∧
          (br (cellB (gC enB g.3) ((0 : Nat) + Int.toNat (↑s.3 : Int) * (1 : Nat)))
           (br (quoB (shortS (cellS (gC enS g.2) ((0 : Nat) + Int.toNat (↑s.3 : Int) * (1 : Nat)))))
            (br (decide (List.length (Array.toList (ByteArray.data (shortS (cellS (gC enS g.1) ((0 : Nat) + Int.toNat (↑s.3 : Int) * (1 : Nat)))))) + (1 : Nat) ≤ (9223372036854775807 : Nat)))
             (br (decide (List.length (Array.toList (ByteArray.data (shortS (cellS (gC enS g.1) ((0 : Nat) + Int.toNat (↑s.3 : Int) * (1 : Nat))))) ++ [(61 : UInt8)]) + List.length (Array.toList (ByteArray.data (quoS (shortS (cellS (gC enS g.2) ((0 : Nat) + Int.toNat (↑s.3 : Int) * (1 : Nat))))))) ≤ (9223372036854775807 : Nat)))
              (br (decide (List.length (Array.toList (ByteArray.data (bs s.1))) + List.length (Array.toList (ByteArray.data (shortS (cellS (gC enS g.1) ((0 : Nat) + Int.toNat (↑s.3 : Int) * (1 : Nat))))) ++ [(61 : UInt8)] ++ Array.toList (ByteArray.data (quoS (shortS (cellS (gC enS g.2) ((0 : Nat) + Int.toNat (↑s.3 : Int) * (1 : Nat))))))) ≤ (9223372036854775807 : Nat)))
               (br (decide (List.length (Array.toList (ByteArray.data (bs s.1)) ++ (Array.toList (ByteArray.data (shortS (cellS (gC enS g.1) ((0 : Nat) + Int.toNat (↑s.3 : Int) * (1 : Nat))))) ++ [(61 : UInt8)] ++ Array.toList (ByteArray.data (quoS (shortS (cellS (gC enS g.2) ((0 : Nat) + Int.toNat (↑s.3 : Int) * (1 : Nat)))))))) + (2 : Nat) ≤ (9223372036854775807 : Nat)))
                (br (decide (List.length s.2 + (1 : Nat) ≤ (16777216 : Nat)))
                 (br (decide ((0 : Nat) + List.length s.2 * (3 : Nat) ≤ List.length (gC enP s.2)))
                  (∃ j : StTp, ((Inv j) ∧
                  ((m j < m s) ∧
                  (((0 : Nat) = (0 : Nat)) ∧
                  ((List.length g.1 = List.length g.1) ∧
                  (((0 : Nat) = (0 : Nat)) ∧
                  ((List.length g.2 = List.length g.2) ∧
                  (((0 : Nat) = (0 : Nat)) ∧
                  ((List.length g.3 = List.length g.3) ∧
                  ((bs j.1 = bs s.1 ++ (shortS (cellS (gC enS g.1) ((0 : Nat) + Int.toNat (↑s.3 : Int) * (1 : Nat))) ++ ByteArray.mk #[(61 : UInt8)] ++ quoS (shortS (cellS (gC enS g.2) ((0 : Nat) + Int.toNat (↑s.3 : Int) * (1 : Nat))))) ++ ByteArray.mk #[(44 : UInt8), (32 : UInt8)]) ∧
                  (((0 : Nat) = (0 : Nat)) ∧
                  ((List.length j.2 = List.length s.2 + (1 : Nat)) ∧
                  (((↑j.3 : Int) = IntKind.wrap IntKind.i64 ((↑s.3 : Int) + (1 : Int))) ∧
                  ((Eq (α := List Value) (gC enS g.1) (gC enS g.1)) ∧
                  ((Plain (gC enS g.1)) ∧
                  ((Eq (α := List Value) (gC enS g.2) (gC enS g.2)) ∧
                  ((Plain (gC enS g.2)) ∧
                  ((Eq (α := List Value) (gC enB g.3) (gC enB g.3)) ∧
                  ((Plain (gC enB g.3)) ∧
                  ((Eq (α := List Value) (gC enP j.2) (List.take (List.length s.2 * (3 : Nat)) (List.drop (0 : Nat) (gC enP s.2)) ++ [Value.string (lowS (shortS (cellS (gC enS g.1) ((0 : Nat) + Int.toNat (↑s.3 : Int) * (1 : Nat))))), Value.string (shortS (cellS (gC enS g.2) ((0 : Nat) + Int.toNat (↑s.3 : Int) * (1 : Nat)))), Value.bool true])) ∧
                  ((Plain (gC enP j.2)) ∧
                  True)))))))))))))))))))))
                  False)
                 False)
                False)
               False)
              False)
             False)
            ((((True ∧ True) ∧ (True ∧ List.length (L (shortS (cellS (gC enS g.2) ((0 : Nat) + Int.toNat (↑s.3 : Int) * (1 : Nat))))) ≤ (9223372036854775807 : Nat)))) ∧
            (br (tokS (shortS (cellS (gC enS g.2) ((0 : Nat) + Int.toNat (↑s.3 : Int) * (1 : Nat)))))
             (br (decide (List.length (Array.toList (ByteArray.data (shortS (cellS (gC enS g.1) ((0 : Nat) + Int.toNat (↑s.3 : Int) * (1 : Nat)))))) + (1 : Nat) ≤ (9223372036854775807 : Nat)))
              (br (decide (List.length (Array.toList (ByteArray.data (shortS (cellS (gC enS g.1) ((0 : Nat) + Int.toNat (↑s.3 : Int) * (1 : Nat))))) ++ [(61 : UInt8)]) + List.length (Array.toList (ByteArray.data (shortS (cellS (gC enS g.2) ((0 : Nat) + Int.toNat (↑s.3 : Int) * (1 : Nat)))))) ≤ (9223372036854775807 : Nat)))
               (br (decide (List.length (Array.toList (ByteArray.data (bs s.1))) + List.length (Array.toList (ByteArray.data (shortS (cellS (gC enS g.1) ((0 : Nat) + Int.toNat (↑s.3 : Int) * (1 : Nat))))) ++ [(61 : UInt8)] ++ Array.toList (ByteArray.data (shortS (cellS (gC enS g.2) ((0 : Nat) + Int.toNat (↑s.3 : Int) * (1 : Nat)))))) ≤ (9223372036854775807 : Nat)))
                (br (decide (List.length (Array.toList (ByteArray.data (bs s.1)) ++ (Array.toList (ByteArray.data (shortS (cellS (gC enS g.1) ((0 : Nat) + Int.toNat (↑s.3 : Int) * (1 : Nat))))) ++ [(61 : UInt8)] ++ Array.toList (ByteArray.data (shortS (cellS (gC enS g.2) ((0 : Nat) + Int.toNat (↑s.3 : Int) * (1 : Nat))))))) + (2 : Nat) ≤ (9223372036854775807 : Nat)))
                 (br (decide (List.length s.2 + (1 : Nat) ≤ (16777216 : Nat)))
                  (br (decide ((0 : Nat) + List.length s.2 * (3 : Nat) ≤ List.length (gC enP s.2)))
                   (∃ j : StTp, ((Inv j) ∧
                   ((m j < m s) ∧
                   (((0 : Nat) = (0 : Nat)) ∧
                   ((List.length g.1 = List.length g.1) ∧
                   (((0 : Nat) = (0 : Nat)) ∧
                   ((List.length g.2 = List.length g.2) ∧
                   (((0 : Nat) = (0 : Nat)) ∧
                   ((List.length g.3 = List.length g.3) ∧
                   ((bs j.1 = bs s.1 ++ (shortS (cellS (gC enS g.1) ((0 : Nat) + Int.toNat (↑s.3 : Int) * (1 : Nat))) ++ ByteArray.mk #[(61 : UInt8)] ++ shortS (cellS (gC enS g.2) ((0 : Nat) + Int.toNat (↑s.3 : Int) * (1 : Nat)))) ++ ByteArray.mk #[(44 : UInt8), (32 : UInt8)]) ∧
                   (((0 : Nat) = (0 : Nat)) ∧
                   ((List.length j.2 = List.length s.2 + (1 : Nat)) ∧
                   (((↑j.3 : Int) = IntKind.wrap IntKind.i64 ((↑s.3 : Int) + (1 : Int))) ∧
                   ((Eq (α := List Value) (gC enS g.1) (gC enS g.1)) ∧
                   ((Plain (gC enS g.1)) ∧
                   ((Eq (α := List Value) (gC enS g.2) (gC enS g.2)) ∧
                   ((Plain (gC enS g.2)) ∧
                   ((Eq (α := List Value) (gC enB g.3) (gC enB g.3)) ∧
                   ((Plain (gC enB g.3)) ∧
                   ((Eq (α := List Value) (gC enP j.2) (List.take (List.length s.2 * (3 : Nat)) (List.drop (0 : Nat) (gC enP s.2)) ++ [Value.string (lowS (shortS (cellS (gC enS g.1) ((0 : Nat) + Int.toNat (↑s.3 : Int) * (1 : Nat))))), Value.string (shortS (cellS (gC enS g.2) ((0 : Nat) + Int.toNat (↑s.3 : Int) * (1 : Nat)))), Value.bool true])) ∧
                   ((Plain (gC enP j.2)) ∧
                   True)))))))))))))))))))))
                   False)
                  False)
                 False)
                False)
               False)
              False)
             (br (decide (List.length (Array.toList (ByteArray.data (bs s.1))) + List.length (Array.toList (ByteArray.data (shortS (cellS (gC enS g.1) ((0 : Nat) + Int.toNat (↑s.3 : Int) * (1 : Nat)))))) ≤ (9223372036854775807 : Nat)))
              (br (decide (List.length (Array.toList (ByteArray.data (bs s.1)) ++ Array.toList (ByteArray.data (shortS (cellS (gC enS g.1) ((0 : Nat) + Int.toNat (↑s.3 : Int) * (1 : Nat)))))) + (2 : Nat) ≤ (9223372036854775807 : Nat)))
               (br (decide (List.length s.2 + (1 : Nat) ≤ (16777216 : Nat)))
                (br (decide ((0 : Nat) + List.length s.2 * (3 : Nat) ≤ List.length (gC enP s.2)))
                 (∃ j : StTp, ((Inv j) ∧
                 ((m j < m s) ∧
                 (((0 : Nat) = (0 : Nat)) ∧
                 ((List.length g.1 = List.length g.1) ∧
                 (((0 : Nat) = (0 : Nat)) ∧
                 ((List.length g.2 = List.length g.2) ∧
                 (((0 : Nat) = (0 : Nat)) ∧
                 ((List.length g.3 = List.length g.3) ∧
                 ((bs j.1 = bs s.1 ++ shortS (cellS (gC enS g.1) ((0 : Nat) + Int.toNat (↑s.3 : Int) * (1 : Nat))) ++ ByteArray.mk #[(44 : UInt8), (32 : UInt8)]) ∧
                 (((0 : Nat) = (0 : Nat)) ∧
                 ((List.length j.2 = List.length s.2 + (1 : Nat)) ∧
                 (((↑j.3 : Int) = IntKind.wrap IntKind.i64 ((↑s.3 : Int) + (1 : Int))) ∧
                 ((Eq (α := List Value) (gC enS g.1) (gC enS g.1)) ∧
                 ((Plain (gC enS g.1)) ∧
                 ((Eq (α := List Value) (gC enS g.2) (gC enS g.2)) ∧
                 ((Plain (gC enS g.2)) ∧
                 ((Eq (α := List Value) (gC enB g.3) (gC enB g.3)) ∧
                 ((Plain (gC enB g.3)) ∧
                 ((Eq (α := List Value) (gC enP j.2) (List.take (List.length s.2 * (3 : Nat)) (List.drop (0 : Nat) (gC enP s.2)) ++ [Value.string (lowS (shortS (cellS (gC enS g.1) ((0 : Nat) + Int.toNat (↑s.3 : Int) * (1 : Nat))))), Value.string (ByteArray.mk #[]), Value.bool false])) ∧
                 ((Plain (gC enP j.2)) ∧
                 True)))))))))))))))))))))
                 False)
                False)
               False)
              False))))
           ((((True ∧ True) ∧ (True ∧ List.length (L (shortS (cellS (gC enS g.2) ((0 : Nat) + Int.toNat (↑s.3 : Int) * (1 : Nat))))) ≤ (9223372036854775807 : Nat)))) ∧
           (br (tokS (shortS (cellS (gC enS g.2) ((0 : Nat) + Int.toNat (↑s.3 : Int) * (1 : Nat)))))
            (br (decide (List.length (Array.toList (ByteArray.data (shortS (cellS (gC enS g.1) ((0 : Nat) + Int.toNat (↑s.3 : Int) * (1 : Nat)))))) + (1 : Nat) ≤ (9223372036854775807 : Nat)))
             (br (decide (List.length (Array.toList (ByteArray.data (shortS (cellS (gC enS g.1) ((0 : Nat) + Int.toNat (↑s.3 : Int) * (1 : Nat))))) ++ [(61 : UInt8)]) + List.length (Array.toList (ByteArray.data (shortS (cellS (gC enS g.2) ((0 : Nat) + Int.toNat (↑s.3 : Int) * (1 : Nat)))))) ≤ (9223372036854775807 : Nat)))
              (br (decide (List.length (Array.toList (ByteArray.data (bs s.1))) + List.length (Array.toList (ByteArray.data (shortS (cellS (gC enS g.1) ((0 : Nat) + Int.toNat (↑s.3 : Int) * (1 : Nat))))) ++ [(61 : UInt8)] ++ Array.toList (ByteArray.data (shortS (cellS (gC enS g.2) ((0 : Nat) + Int.toNat (↑s.3 : Int) * (1 : Nat)))))) ≤ (9223372036854775807 : Nat)))
               (br (decide (List.length (Array.toList (ByteArray.data (bs s.1)) ++ (Array.toList (ByteArray.data (shortS (cellS (gC enS g.1) ((0 : Nat) + Int.toNat (↑s.3 : Int) * (1 : Nat))))) ++ [(61 : UInt8)] ++ Array.toList (ByteArray.data (shortS (cellS (gC enS g.2) ((0 : Nat) + Int.toNat (↑s.3 : Int) * (1 : Nat))))))) + (2 : Nat) ≤ (9223372036854775807 : Nat)))
                (br (decide (List.length s.2 + (1 : Nat) ≤ (16777216 : Nat)))
                 (br (decide ((0 : Nat) + List.length s.2 * (3 : Nat) ≤ List.length (gC enP s.2)))
                  (∃ j : StTp, ((Inv j) ∧
                  ((m j < m s) ∧
                  (((0 : Nat) = (0 : Nat)) ∧
                  ((List.length g.1 = List.length g.1) ∧
                  (((0 : Nat) = (0 : Nat)) ∧
                  ((List.length g.2 = List.length g.2) ∧
                  (((0 : Nat) = (0 : Nat)) ∧
                  ((List.length g.3 = List.length g.3) ∧
                  ((bs j.1 = bs s.1 ++ (shortS (cellS (gC enS g.1) ((0 : Nat) + Int.toNat (↑s.3 : Int) * (1 : Nat))) ++ ByteArray.mk #[(61 : UInt8)] ++ shortS (cellS (gC enS g.2) ((0 : Nat) + Int.toNat (↑s.3 : Int) * (1 : Nat)))) ++ ByteArray.mk #[(44 : UInt8), (32 : UInt8)]) ∧
                  (((0 : Nat) = (0 : Nat)) ∧
                  ((List.length j.2 = List.length s.2 + (1 : Nat)) ∧
                  (((↑j.3 : Int) = IntKind.wrap IntKind.i64 ((↑s.3 : Int) + (1 : Int))) ∧
                  ((Eq (α := List Value) (gC enS g.1) (gC enS g.1)) ∧
                  ((Plain (gC enS g.1)) ∧
                  ((Eq (α := List Value) (gC enS g.2) (gC enS g.2)) ∧
                  ((Plain (gC enS g.2)) ∧
                  ((Eq (α := List Value) (gC enB g.3) (gC enB g.3)) ∧
                  ((Plain (gC enB g.3)) ∧
                  ((Eq (α := List Value) (gC enP j.2) (List.take (List.length s.2 * (3 : Nat)) (List.drop (0 : Nat) (gC enP s.2)) ++ [Value.string (lowS (shortS (cellS (gC enS g.1) ((0 : Nat) + Int.toNat (↑s.3 : Int) * (1 : Nat))))), Value.string (shortS (cellS (gC enS g.2) ((0 : Nat) + Int.toNat (↑s.3 : Int) * (1 : Nat)))), Value.bool true])) ∧
                  ((Plain (gC enP j.2)) ∧
                  True)))))))))))))))))))))
                  False)
                 False)
                False)
               False)
              False)
             False)
            (br (decide (List.length (Array.toList (ByteArray.data (bs s.1))) + List.length (Array.toList (ByteArray.data (shortS (cellS (gC enS g.1) ((0 : Nat) + Int.toNat (↑s.3 : Int) * (1 : Nat)))))) ≤ (9223372036854775807 : Nat)))
             (br (decide (List.length (Array.toList (ByteArray.data (bs s.1)) ++ Array.toList (ByteArray.data (shortS (cellS (gC enS g.1) ((0 : Nat) + Int.toNat (↑s.3 : Int) * (1 : Nat)))))) + (2 : Nat) ≤ (9223372036854775807 : Nat)))
              (br (decide (List.length s.2 + (1 : Nat) ≤ (16777216 : Nat)))
               (br (decide ((0 : Nat) + List.length s.2 * (3 : Nat) ≤ List.length (gC enP s.2)))
                (∃ j : StTp, ((Inv j) ∧
                ((m j < m s) ∧
                (((0 : Nat) = (0 : Nat)) ∧
                ((List.length g.1 = List.length g.1) ∧
                (((0 : Nat) = (0 : Nat)) ∧
                ((List.length g.2 = List.length g.2) ∧
                (((0 : Nat) = (0 : Nat)) ∧
                ((List.length g.3 = List.length g.3) ∧
                ((bs j.1 = bs s.1 ++ shortS (cellS (gC enS g.1) ((0 : Nat) + Int.toNat (↑s.3 : Int) * (1 : Nat))) ++ ByteArray.mk #[(44 : UInt8), (32 : UInt8)]) ∧
                (((0 : Nat) = (0 : Nat)) ∧
                ((List.length j.2 = List.length s.2 + (1 : Nat)) ∧
                (((↑j.3 : Int) = IntKind.wrap IntKind.i64 ((↑s.3 : Int) + (1 : Int))) ∧
                ((Eq (α := List Value) (gC enS g.1) (gC enS g.1)) ∧
                ((Plain (gC enS g.1)) ∧
                ((Eq (α := List Value) (gC enS g.2) (gC enS g.2)) ∧
                ((Plain (gC enS g.2)) ∧
                ((Eq (α := List Value) (gC enB g.3) (gC enB g.3)) ∧
                ((Plain (gC enB g.3)) ∧
                ((Eq (α := List Value) (gC enP j.2) (List.take (List.length s.2 * (3 : Nat)) (List.drop (0 : Nat) (gC enP s.2)) ++ [Value.string (lowS (shortS (cellS (gC enS g.1) ((0 : Nat) + Int.toNat (↑s.3 : Int) * (1 : Nat))))), Value.string (ByteArray.mk #[]), Value.bool false])) ∧
                ((Plain (gC enP j.2)) ∧
                True)))))))))))))))))))))
                False)
               False)
              False)
             False)))))
          False)
         ((((True ∧ True) ∧ (True ∧ List.length (L (shortS (cellS (gC enS g.2) ((0 : Nat) + Int.toNat (↑s.3 : Int) * (1 : Nat))))) ≤ (9223372036854775807 : Nat)))) ∧
         (br (tokS (shortS (cellS (gC enS g.2) ((0 : Nat) + Int.toNat (↑s.3 : Int) * (1 : Nat)))))
          (br (decide (List.length (Array.toList (ByteArray.data (shortS (cellS (gC enS g.1) ((0 : Nat) + Int.toNat (↑s.3 : Int) * (1 : Nat)))))) + (1 : Nat) ≤ (9223372036854775807 : Nat)))
           (br (decide (List.length (Array.toList (ByteArray.data (shortS (cellS (gC enS g.1) ((0 : Nat) + Int.toNat (↑s.3 : Int) * (1 : Nat))))) ++ [(61 : UInt8)]) + List.length (Array.toList (ByteArray.data (shortS (cellS (gC enS g.2) ((0 : Nat) + Int.toNat (↑s.3 : Int) * (1 : Nat)))))) ≤ (9223372036854775807 : Nat)))
            (br (decide (List.length (Array.toList (ByteArray.data (bs s.1))) + List.length (Array.toList (ByteArray.data (shortS (cellS (gC enS g.1) ((0 : Nat) + Int.toNat (↑s.3 : Int) * (1 : Nat))))) ++ [(61 : UInt8)] ++ Array.toList (ByteArray.data (shortS (cellS (gC enS g.2) ((0 : Nat) + Int.toNat (↑s.3 : Int) * (1 : Nat)))))) ≤ (9223372036854775807 : Nat)))
             (br (decide (List.length (Array.toList (ByteArray.data (bs s.1)) ++ (Array.toList (ByteArray.data (shortS (cellS (gC enS g.1) ((0 : Nat) + Int.toNat (↑s.3 : Int) * (1 : Nat))))) ++ [(61 : UInt8)] ++ Array.toList (ByteArray.data (shortS (cellS (gC enS g.2) ((0 : Nat) + Int.toNat (↑s.3 : Int) * (1 : Nat))))))) + (2 : Nat) ≤ (9223372036854775807 : Nat)))
              (br (decide (List.length s.2 + (1 : Nat) ≤ (16777216 : Nat)))
               (br (decide ((0 : Nat) + List.length s.2 * (3 : Nat) ≤ List.length (gC enP s.2)))
                (∃ j : StTp, ((Inv j) ∧
                ((m j < m s) ∧
                (((0 : Nat) = (0 : Nat)) ∧
                ((List.length g.1 = List.length g.1) ∧
                (((0 : Nat) = (0 : Nat)) ∧
                ((List.length g.2 = List.length g.2) ∧
                (((0 : Nat) = (0 : Nat)) ∧
                ((List.length g.3 = List.length g.3) ∧
                ((bs j.1 = bs s.1 ++ (shortS (cellS (gC enS g.1) ((0 : Nat) + Int.toNat (↑s.3 : Int) * (1 : Nat))) ++ ByteArray.mk #[(61 : UInt8)] ++ shortS (cellS (gC enS g.2) ((0 : Nat) + Int.toNat (↑s.3 : Int) * (1 : Nat)))) ++ ByteArray.mk #[(44 : UInt8), (32 : UInt8)]) ∧
                (((0 : Nat) = (0 : Nat)) ∧
                ((List.length j.2 = List.length s.2 + (1 : Nat)) ∧
                (((↑j.3 : Int) = IntKind.wrap IntKind.i64 ((↑s.3 : Int) + (1 : Int))) ∧
                ((Eq (α := List Value) (gC enS g.1) (gC enS g.1)) ∧
                ((Plain (gC enS g.1)) ∧
                ((Eq (α := List Value) (gC enS g.2) (gC enS g.2)) ∧
                ((Plain (gC enS g.2)) ∧
                ((Eq (α := List Value) (gC enB g.3) (gC enB g.3)) ∧
                ((Plain (gC enB g.3)) ∧
                ((Eq (α := List Value) (gC enP j.2) (List.take (List.length s.2 * (3 : Nat)) (List.drop (0 : Nat) (gC enP s.2)) ++ [Value.string (lowS (shortS (cellS (gC enS g.1) ((0 : Nat) + Int.toNat (↑s.3 : Int) * (1 : Nat))))), Value.string (shortS (cellS (gC enS g.2) ((0 : Nat) + Int.toNat (↑s.3 : Int) * (1 : Nat)))), Value.bool true])) ∧
                ((Plain (gC enP j.2)) ∧
                True)))))))))))))))))))))
                False)
               False)
              False)
             False)
            False)
           False)
          (br (decide (List.length (Array.toList (ByteArray.data (bs s.1))) + List.length (Array.toList (ByteArray.data (shortS (cellS (gC enS g.1) ((0 : Nat) + Int.toNat (↑s.3 : Int) * (1 : Nat)))))) ≤ (9223372036854775807 : Nat)))
           (br (decide (List.length (Array.toList (ByteArray.data (bs s.1)) ++ Array.toList (ByteArray.data (shortS (cellS (gC enS g.1) ((0 : Nat) + Int.toNat (↑s.3 : Int) * (1 : Nat)))))) + (2 : Nat) ≤ (9223372036854775807 : Nat)))
            (br (decide (List.length s.2 + (1 : Nat) ≤ (16777216 : Nat)))
             (br (decide ((0 : Nat) + List.length s.2 * (3 : Nat) ≤ List.length (gC enP s.2)))
              (∃ j : StTp, ((Inv j) ∧
              ((m j < m s) ∧
              (((0 : Nat) = (0 : Nat)) ∧
              ((List.length g.1 = List.length g.1) ∧
              (((0 : Nat) = (0 : Nat)) ∧
              ((List.length g.2 = List.length g.2) ∧
              (((0 : Nat) = (0 : Nat)) ∧
              ((List.length g.3 = List.length g.3) ∧
              ((bs j.1 = bs s.1 ++ shortS (cellS (gC enS g.1) ((0 : Nat) + Int.toNat (↑s.3 : Int) * (1 : Nat))) ++ ByteArray.mk #[(44 : UInt8), (32 : UInt8)]) ∧
              (((0 : Nat) = (0 : Nat)) ∧
              ((List.length j.2 = List.length s.2 + (1 : Nat)) ∧
              (((↑j.3 : Int) = IntKind.wrap IntKind.i64 ((↑s.3 : Int) + (1 : Int))) ∧
              ((Eq (α := List Value) (gC enS g.1) (gC enS g.1)) ∧
              ((Plain (gC enS g.1)) ∧
              ((Eq (α := List Value) (gC enS g.2) (gC enS g.2)) ∧
              ((Plain (gC enS g.2)) ∧
              ((Eq (α := List Value) (gC enB g.3) (gC enB g.3)) ∧
              ((Plain (gC enB g.3)) ∧
              ((Eq (α := List Value) (gC enP j.2) (List.take (List.length s.2 * (3 : Nat)) (List.drop (0 : Nat) (gC enP s.2)) ++ [Value.string (lowS (shortS (cellS (gC enS g.1) ((0 : Nat) + Int.toNat (↑s.3 : Int) * (1 : Nat))))), Value.string (ByteArray.mk #[]), Value.bool false])) ∧
              ((Plain (gC enP j.2)) ∧
              True)))))))))))))))))))))
              False)
             False)
            False)
           False)))))))
        False)
       (br (decide (List.length (Array.toList (ByteArray.data (bs s.1))) + List.length (Array.toList (ByteArray.data (shortS (cellS (gC enS g.1) ((0 : Nat) + Int.toNat (↑s.3 : Int) * (1 : Nat)))))) ≤ (9223372036854775807 : Nat)))
        (br (decide (List.length (Array.toList (ByteArray.data (bs s.1)) ++ Array.toList (ByteArray.data (shortS (cellS (gC enS g.1) ((0 : Nat) + Int.toNat (↑s.3 : Int) * (1 : Nat)))))) + (2 : Nat) ≤ (9223372036854775807 : Nat)))
         (br (decide (List.length s.2 + (1 : Nat) ≤ (16777216 : Nat)))
          (br (decide ((0 : Nat) + List.length s.2 * (3 : Nat) ≤ List.length (gC enP s.2)))
           (∃ j : StTp, ((Inv j) ∧
           ((m j < m s) ∧
           (((0 : Nat) = (0 : Nat)) ∧
           ((List.length g.1 = List.length g.1) ∧
           (((0 : Nat) = (0 : Nat)) ∧
           ((List.length g.2 = List.length g.2) ∧
           (((0 : Nat) = (0 : Nat)) ∧
           ((List.length g.3 = List.length g.3) ∧
           ((bs j.1 = bs s.1 ++ shortS (cellS (gC enS g.1) ((0 : Nat) + Int.toNat (↑s.3 : Int) * (1 : Nat))) ++ ByteArray.mk #[(44 : UInt8), (32 : UInt8)]) ∧
           (((0 : Nat) = (0 : Nat)) ∧
           ((List.length j.2 = List.length s.2 + (1 : Nat)) ∧
           (((↑j.3 : Int) = IntKind.wrap IntKind.i64 ((↑s.3 : Int) + (1 : Int))) ∧
           ((Eq (α := List Value) (gC enS g.1) (gC enS g.1)) ∧
           ((Plain (gC enS g.1)) ∧
           ((Eq (α := List Value) (gC enS g.2) (gC enS g.2)) ∧
           ((Plain (gC enS g.2)) ∧
           ((Eq (α := List Value) (gC enB g.3) (gC enB g.3)) ∧
           ((Plain (gC enB g.3)) ∧
           ((Eq (α := List Value) (gC enP j.2) (List.take (List.length s.2 * (3 : Nat)) (List.drop (0 : Nat) (gC enP s.2)) ++ [Value.string (lowS (shortS (cellS (gC enS g.1) ((0 : Nat) + Int.toNat (↑s.3 : Int) * (1 : Nat))))), Value.string (ByteArray.mk #[]), Value.bool false])) ∧
           ((Plain (gC enP j.2)) ∧
           True)))))))))))))))))))))
           False)
          False)
         False)
        False)))))))
     False)
    (∃ y : StTp, (((Eq (α := List UInt8) (y.1) (joinP y.4) ∧ (Eq (α := List Pr) (y.2) (wantP y.4) ∧ (List.length y.1 ≤ (10900 : Nat) ∧ (List.length y.2 ≤ (12 : Nat) ∧ ∀ (x : It), x ∈ StTp.its y → ItOk x))))) ∧
    ((bs y.1 = bs s.1) ∧
    (((0 : Nat) = (0 : Nat)) ∧
    ((List.length y.2 = List.length s.2) ∧
    ((Eq (α := List Value) (gC enS g.1) (gC enS g.1)) ∧
    ((Plain (gC enS g.1)) ∧
    ((Eq (α := List Value) (gC enS g.2) (gC enS g.2)) ∧
    ((Plain (gC enS g.2)) ∧
    ((Eq (α := List Value) (gC enB g.3) (gC enB g.3)) ∧
    ((Plain (gC enB g.3)) ∧
    ((Eq (α := List Value) (gC enP y.2) (gC enP s.2)) ∧
    ((Plain (gC enP y.2)) ∧
    True))))))))))))))
   (∃ y : StTp, (((Eq (α := List UInt8) (y.1) (joinP y.4) ∧ (Eq (α := List Pr) (y.2) (wantP y.4) ∧ (List.length y.1 ≤ (10900 : Nat) ∧ (List.length y.2 ≤ (12 : Nat) ∧ ∀ (x : It), x ∈ StTp.its y → ItOk x))))) ∧
   ((bs y.1 = bs s.1) ∧
   (((0 : Nat) = (0 : Nat)) ∧
   ((List.length y.2 = List.length s.2) ∧
   ((Eq (α := List Value) (gC enS g.1) (gC enS g.1)) ∧
   ((Plain (gC enS g.1)) ∧
   ((Eq (α := List Value) (gC enS g.2) (gC enS g.2)) ∧
   ((Plain (gC enS g.2)) ∧
   ((Eq (α := List Value) (gC enB g.3) (gC enB g.3)) ∧
   ((Plain (gC enB g.3)) ∧
   ((Eq (α := List Value) (gC enP y.2) (gC enP s.2)) ∧
   ((Plain (gC enP y.2)) ∧
   True)))))))))))))) := by kernel_rfl
theorem Tq_round (g : GTq) (i : Nat) (Inv : Nat → Prop) (m : Nat → Nat) : mev ETp noM 60 8 (0 :: pTq) false (codeOf Try.prog 8 (0 :: pTq)) ⟨mkOv (slTq g i), 114, []⟩ none ⟨mkR (rlTq g), 5⟩ (roundK 3 5 114 Inv m (slTq g) (fun _ => rlTq g) (wsTq g) i) =
  (br (decide ((↑i : Int) < Int.ofNat (List.length g.2)))
   (br (decide ((0 : Int) ≤ (↑i : Int) ∧ (↑i : Int) < (↑(List.length g.2) : Int)))
    ((Eq (α := Option Value) ((gC enP g.2)[(0 : Nat) + Int.toNat (↑i : Int) * (3 : Nat)]?) (some (Value.string (cellS (gC enP g.2) ((0 : Nat) + Int.toNat (↑i : Int) * (3 : Nat)))))) ∧
    ((Eq (α := Option Value) ((gC enP g.2)[(0 : Nat) + Int.toNat (↑i : Int) * (3 : Nat) + (1 : Nat)]?) (some (Value.string (cellS (gC enP g.2) ((0 : Nat) + Int.toNat (↑i : Int) * (3 : Nat) + (1 : Nat)))))) ∧
    ((Eq (α := Option Value) ((gC enP g.2)[(0 : Nat) + Int.toNat (↑i : Int) * (3 : Nat) + (1 : Nat) + (1 : Nat)]?) (some (Value.bool (cellB (gC enP g.2) ((0 : Nat) + Int.toNat (↑i : Int) * (3 : Nat) + (1 : Nat) + (1 : Nat)))))) ∧
    (br (decide ((0 : Int) ≤ (↑i : Int) ∧ (↑i : Int) < (↑(List.length g.2) : Int)))
     ((Eq (α := Option Value) ((gC enP g.2)[(0 : Nat) + Int.toNat (↑i : Int) * (3 : Nat)]?) (some (Value.string (cellS (gC enP g.2) ((0 : Nat) + Int.toNat (↑i : Int) * (3 : Nat)))))) ∧
     ((Eq (α := Option Value) ((gC enP g.2)[(0 : Nat) + Int.toNat (↑i : Int) * (3 : Nat) + (1 : Nat)]?) (some (Value.string (cellS (gC enP g.2) ((0 : Nat) + Int.toNat (↑i : Int) * (3 : Nat) + (1 : Nat)))))) ∧
     ((Eq (α := Option Value) ((gC enP g.2)[(0 : Nat) + Int.toNat (↑i : Int) * (3 : Nat) + (1 : Nat) + (1 : Nat)]?) (some (Value.bool (cellB (gC enP g.2) ((0 : Nat) + Int.toNat (↑i : Int) * (3 : Nat) + (1 : Nat) + (1 : Nat)))))) ∧
     ((Eq (α := Option Value) ((gC enP g.2)[(0 : Nat) + Int.toNat (↑i : Int) * (3 : Nat)]?) (some (Value.string (cellS (gC enP g.2) ((0 : Nat) + Int.toNat (↑i : Int) * (3 : Nat)))))) ∧
     ((Eq (α := Option Value) ((gC enP g.2)[(0 : Nat) + Int.toNat (↑i : Int) * (3 : Nat) + (1 : Nat)]?) (some (Value.string (cellS (gC enP g.2) ((0 : Nat) + Int.toNat (↑i : Int) * (3 : Nat) + (1 : Nat)))))) ∧
     ((Eq (α := Option Value) ((gC enP g.2)[(0 : Nat) + Int.toNat (↑i : Int) * (3 : Nat) + (1 : Nat) + (1 : Nat)]?) (some (Value.bool (cellB (gC enP g.2) ((0 : Nat) + Int.toNat (↑i : Int) * (3 : Nat) + (1 : Nat) + (1 : Nat)))))) ∧
     ((Value.agg (Array.mk [Value.string (cellS (gC enP g.2) ((0 : Nat) + Int.toNat (↑i : Int) * (3 : Nat))), Value.string (cellS (gC enP g.2) ((0 : Nat) + Int.toNat (↑i : Int) * (3 : Nat) + (1 : Nat))), Value.bool (cellB (gC enP g.2) ((0 : Nat) + Int.toNat (↑i : Int) * (3 : Nat) + (1 : Nat) + (1 : Nat)))]) = Value.agg (Array.mk [Value.string (cellS (gC enP g.2) ((0 : Nat) + Int.toNat (↑i : Int) * (3 : Nat))), Value.string (cellS (gC enP g.2) ((0 : Nat) + Int.toNat (↑i : Int) * (3 : Nat) + (1 : Nat))), Value.bool (cellB (gC enP g.2) ((0 : Nat) + Int.toNat (↑i : Int) * (3 : Nat) + (1 : Nat) + (1 : Nat)))])) ∧
     ((Eq (α := Option Value) ((gC enP g.2)[(0 : Nat) + Int.toNat (↑i : Int) * (3 : Nat)]?) (some (Value.string (cellS (gC enP g.2) ((0 : Nat) + Int.toNat (↑i : Int) * (3 : Nat)))))) ∧
     ((Eq (α := Option Value) ((gC enP g.2)[(0 : Nat) + Int.toNat (↑i : Int) * (3 : Nat) + (1 : Nat)]?) (some (Value.string (cellS (gC enP g.2) ((0 : Nat) + Int.toNat (↑i : Int) * (3 : Nat) + (1 : Nat)))))) ∧
     ((Eq (α := Option Value) ((gC enP g.2)[(0 : Nat) + Int.toNat (↑i : Int) * (3 : Nat) + (1 : Nat) + (1 : Nat)]?) (some (Value.bool (cellB (gC enP g.2) ((0 : Nat) + Int.toNat (↑i : Int) * (3 : Nat) + (1 : Nat) + (1 : Nat)))))) ∧
     ((Value.agg (Array.mk [Value.string (cellS (gC enP g.2) ((0 : Nat) + Int.toNat (↑i : Int) * (3 : Nat))), Value.string (cellS (gC enP g.2) ((0 : Nat) + Int.toNat (↑i : Int) * (3 : Nat) + (1 : Nat))), Value.bool (cellB (gC enP g.2) ((0 : Nat) + Int.toNat (↑i : Int) * (3 : Nat) + (1 : Nat) + (1 : Nat)))]) = Value.agg (Array.mk [Value.string (cellS (gC enP g.2) ((0 : Nat) + Int.toNat (↑i : Int) * (3 : Nat))), Value.string (cellS (gC enP g.2) ((0 : Nat) + Int.toNat (↑i : Int) * (3 : Nat) + (1 : Nat))), Value.bool (cellB (gC enP g.2) ((0 : Nat) + Int.toNat (↑i : Int) * (3 : Nat) + (1 : Nat) + (1 : Nat)))])) ∧
     (br (!(cellS (gC enP g.2) ((0 : Nat) + Int.toNat (↑i : Int) * (3 : Nat)) == cellS (gC enP g.2) ((0 : Nat) + Int.toNat (↑i : Int) * (3 : Nat)) && (cellS (gC enP g.2) ((0 : Nat) + Int.toNat (↑i : Int) * (3 : Nat) + (1 : Nat)) == cellS (gC enP g.2) ((0 : Nat) + Int.toNat (↑i : Int) * (3 : Nat) + (1 : Nat)) && (cellB (gC enP g.2) ((0 : Nat) + Int.toNat (↑i : Int) * (3 : Nat) + (1 : Nat) + (1 : Nat)) == cellB (gC enP g.2) ((0 : Nat) + Int.toNat (↑i : Int) * (3 : Nat) + (1 : Nat) + (1 : Nat)) && true))))
      False
      (∃ j : Nat, ((Inv j) ∧
      ((m j < m i) ∧
      (((0 : Nat) = (0 : Nat)) ∧
      ((List.length g.2 = List.length g.2) ∧
      (((0 : Nat) = (0 : Nat)) ∧
      ((List.length g.2 = List.length g.2) ∧
      (((↑j : Int) = IntKind.wrap IntKind.i64 ((↑i : Int) + (1 : Int))) ∧
      ((Eq (α := List Value) (gC enS g.1.1) (gC enS g.1.1)) ∧
      ((Plain (gC enS g.1.1)) ∧
      ((Eq (α := List Value) (gC enS g.1.2) (gC enS g.1.2)) ∧
      ((Plain (gC enS g.1.2)) ∧
      ((Eq (α := List Value) (gC enB g.1.3) (gC enB g.1.3)) ∧
      ((Plain (gC enB g.1.3)) ∧
      ((Eq (α := List Value) (gC enP g.2) (gC enP g.2)) ∧
      ((Plain (gC enP g.2)) ∧
      ((Eq (α := List Value) (gC enP g.2) (gC enP g.2)) ∧
      ((Plain (gC enP g.2)) ∧
      True))))))))))))))))))))))))))))))
     False))))
    False)
   (∃ y : Unit, ((True) ∧
   ((Eq (α := List Value) (gC enS g.1.1) (gC enS g.1.1)) ∧
   ((Plain (gC enS g.1.1)) ∧
   ((Eq (α := List Value) (gC enS g.1.2) (gC enS g.1.2)) ∧
   ((Plain (gC enS g.1.2)) ∧
   ((Eq (α := List Value) (gC enB g.1.3) (gC enB g.1.3)) ∧
   ((Plain (gC enB g.1.3)) ∧
   True))))))))) := by kernel_rfl
theorem Tp_vc (l v : List (List UInt8)) (q : List Bool) : mcall ETp mTp 60 8 [.slice (some ⟨0, 0, none⟩) l.length 1, .slice (some ⟨1, 0, none⟩) v.length 1, .slice (some ⟨2, 0, none⟩) q.length 1] ⟨mkR (nums 0 [gRo enS l, gRo enS v, gRo enB q]), 3⟩ (retIs 3 (.bool true) [gRo enS l, gRo enS v, gRo enB q]) =
  (∃ g : GTp, ((List.length g.1 ≤ (9223372036854775807 : Nat) ∧ (∀ (x : List UInt8), x ∈ GTp.l g → List.length x ≤ maxLen) ∧ List.length g.2 ≤ (9223372036854775807 : Nat) ∧ (∀ (x : List UInt8), x ∈ GTp.v g → List.length x ≤ maxLen) ∧ List.length g.3 ≤ (9223372036854775807 : Nat)) ∧
  (((0 : Nat) = (0 : Nat)) ∧
  ((List.length g.1 = List.length l) ∧
  (((0 : Nat) = (0 : Nat)) ∧
  ((List.length g.2 = List.length v) ∧
  (((0 : Nat) = (0 : Nat)) ∧
  ((List.length g.3 = List.length q) ∧
  ((bs (StTp.line (StTp.mk [] [] (0 : Nat) [])) = ByteArray.mk #[]) ∧
  (((0 : Nat) = (0 : Nat)) ∧
  (((0 : Int) = (0 : Int)) ∧
  ((Eq (α := List Value) (gC enS g.1) (gC enS l)) ∧
  ((Plain (gC enS g.1)) ∧
  ((Eq (α := List Value) (gC enS g.2) (gC enS v)) ∧
  ((Plain (gC enS g.2)) ∧
  ((Eq (α := List Value) (gC enB g.3) (gC enB q)) ∧
  ((Plain (gC enB g.3)) ∧
  ((Eq (α := List Value) ([]) ([])) ∧
  (∀ (y : StTp), ((y.1 = joinP y.4 ∧ y.2 = wantP y.4 ∧ List.length y.1 ≤ (10900 : Nat) ∧ List.length y.2 ≤ (12 : Nat) ∧ ∀ (x : It), x ∈ StTp.its y → ItOk x) →
  ((((((2 : Nat) ≤ (2 : Nat) ∧ Plain [Value.string (ByteArray.mk #[(120 : UInt8)]), Value.string (bs y.1)]) ∧ (True ∧ True)) ∧ ((Plain (prC (Row.mk [Value.string (ByteArray.mk #[(120 : UInt8)]), Value.string (bs y.1)] true (Ob.cells true)) (ByteArray.mk #[(120 : UInt8)])) ∧ True) ∧ (IsF (Row.mk [Value.string (ByteArray.mk #[(120 : UInt8)]), Value.string (bs y.1)] true (Ob.cells true)) (1 : Nat) ∧ ((1 : Nat) ≤ maxLen ∧ alB (Row.mk [Value.string (ByteArray.mk #[(120 : UInt8)]), Value.string (bs y.1)] true (Ob.cells true)) (ByteArray.mk #[(120 : UInt8)]) ≤ (16777000 : Nat)))))) ∧
  (br (Int.ofNat (prN (Row.mk [Value.string (ByteArray.mk #[(120 : UInt8)]), Value.string (bs y.1)] true (Ob.cells true)) (ByteArray.mk #[(120 : UInt8)])) != Int.ofNat (List.length y.2))
   ((true = false) ∧
   ((Eq (α := List Value) (gC enS l) (gC enS g.1)) ∧
   ((Plain (gC enS l)) ∧
   ((Eq (α := List Value) (gC enS v) (gC enS g.2)) ∧
   ((Plain (gC enS v)) ∧
   ((Eq (α := List Value) (gC enB q) (gC enB g.3)) ∧
   ((Plain (gC enB q)) ∧
   True)))))))
   (∃ g2 : GTq, ((List.length g2.2 ≤ (100 : Nat)) ∧
   (((0 : Nat) = (0 : Nat)) ∧
   ((List.length g2.2 = List.length y.2) ∧
   (((0 : Nat) = (0 : Nat)) ∧
   ((List.length g2.2 = prN (Row.mk [Value.string (ByteArray.mk #[(120 : UInt8)]), Value.string (bs y.1)] true (Ob.cells true)) (ByteArray.mk #[(120 : UInt8)])) ∧
   (((0 : Int) = (0 : Int)) ∧
   ((Eq (α := List Value) (gC enS g2.1.1) (gC enS g.1)) ∧
   ((Plain (gC enS g2.1.1)) ∧
   ((Eq (α := List Value) (gC enS g2.1.2) (gC enS g.2)) ∧
   ((Plain (gC enS g2.1.2)) ∧
   ((Eq (α := List Value) (gC enB g2.1.3) (gC enB g.3)) ∧
   ((Plain (gC enB g2.1.3)) ∧
   ((Eq (α := List Value) (gC enP g2.2) (gC enP y.2)) ∧
   ((Plain (gC enP g2.2)) ∧
   ((Eq (α := List Value) (gC enP g2.2) (prC (Row.mk [Value.string (ByteArray.mk #[(120 : UInt8)]), Value.string (bs y.1)] true (Ob.cells true)) (ByteArray.mk #[(120 : UInt8)]))) ∧
   ((Plain (gC enP g2.2)) ∧
   (∀ (y2 : Unit), ((True) →
   (((True ∧ (True ∧ True))) ∧
   ((true = true) ∧
   ((Eq (α := List Value) (gC enS l) (gC enS g2.1.1)) ∧
   ((Plain (gC enS l)) ∧
   ((Eq (α := List Value) (gC enS v) (gC enS g2.1.2)) ∧
   ((Plain (gC enS v)) ∧
   ((Eq (α := List Value) (gC enB q) (gC enB g2.1.3)) ∧
   ((Plain (gC enB q)) ∧
   True))))))))))))))))))))))))))))))))))))))))))))))))) := by kernel_rfl
theorem cTp_ok : ∀ f a rows p v news, cTp f a rows = some (p, v, news) → p → Con Try.prog f a rows v (rows ++ news) := by
  intro f a rows p v news h hp
  have e : ∀ l, decF (gRo enF l).cells = l := fun l => decF_gC l
  unfold cTp at h
  split at h <;> simp only [Option.some.injEq, Prod.mk.injEq, reduceCtorEq] at h <;> obtain ⟨rfl, rfl, rfl⟩ := h
  · exact Tok_con (L _) hp
  · exact Low_con (L _) hp
  · exact Sh_con (L _) hp
  · exact Qt_con (L _) hp
  · obtain ⟨⟨l, rfl, rfl⟩, h1, h2⟩ := hp
    simp only [prN, prC, prL, alB, e] at h2 ⊢
    exact Pa_con l (L _) h1 h2
  · exact con_run mixed (n := 1000000) (by kernel_rfl) (by kernel_rfl)
theorem bs_same (a : List UInt8) : (bs a == bs a) = true := by
  have e : (bs a == bs a) = (a.toArray == a.toArray) := rfl
  rw [e]; simp
theorem bAt (l : List Bool) (i : Nat) (h : i < l.length) : (gC enB l)[i]? = some (.bool (cellB (gC enB l) i)) := by
  obtain ⟨a, b⟩ := bGet l i h
  rw [b]; exact a
theorem tok_b {n : List UInt8} (h : tokL n = true) : n ≠ [] ∧ ∀ c ∈ n, tokN c.toNat = true := by
  unfold tokL allTk at h
  simp only [Bool.and_eq_true] at h
  exact ⟨by intro e; rw [e] at h; simp at h, fun c hc => List.all_eq_true.1 h.1 c hc⟩
theorem tk_ne (c : UInt8) (h : tokN c.toNat = true) : c ≠ 34 ∧ c ≠ 92 ∧ c ≠ 44 ∧ c ≠ 61 ∧ spC c = false := by
  refine ⟨?_, ?_, ?_, ?_, ?_⟩
  · rintro rfl; simp [tokN] at h
  · rintro rfl; simp [tokN] at h
  · rintro rfl; simp [tokN] at h
  · rintro rfl; simp [tokN] at h
  · unfold spC spN
    by_cases h1 : c.toNat = 32
    · rw [h1] at h; simp [tokN] at h
    · by_cases h2 : c.toNat = 9
      · rw [h2] at h; simp [tokN] at h
      · simp [h1, h2]
theorem spl_tk (q : Bool) : ∀ (l cur r : List UInt8), (∀ c ∈ l, tokN c.toNat = true) → spl q cur (l ++ r) = spl q (cur ++ l) r
  | [], cur, r, _ => by simp
  | c :: l, cur, r, h => by
    have h1 := tk_ne c (h c (by simp))
    rw [List.cons_append, spl_o q cur (l ++ r) c h1.1 (by simp [h1.2.1]) (by simp [h1.2.2.1]), spl_tk q l _ r (fun x hx => h x (by simp [hx]))]
    simp
theorem trim_hl (t : List UInt8) (h1 : ∀ c r, t = c :: r → spC c = false) (h2 : ∀ r d, t = r ++ [d] → spC d = false) : trimL t = t := by
  have e1 : trimF t = t := by
    unfold trimF
    cases t with
    | nil => rfl
    | cons c r => exact List.dropWhile_cons_of_neg (by simp [h1 c r rfl])
  have e2 : trimB t = t := by
    rcases List.eq_nil_or_concat t with rfl | ⟨r, d, rfl⟩
    · rfl
    · rw [List.concat_eq_append, trimB_app, h2 r d (List.concat_eq_append)]; rfl
  unfold trimL; rw [e1, e2]
/-- What an item is split off as, and what it says. -/
theorem it_facts (x : It) (h : ItOk x) : (∀ r, spl false [] (x.t ++ r) = spl false x.t r) ∧ addEl x.t = [x.t] ∧ ofL x.t = some x.p := by
  obtain ⟨t, p⟩ := x
  obtain ⟨n, v, h1, h2, h3, h4⟩ := h
  obtain ⟨hn, hc⟩ := tok_b h1
  simp only at h2 h3 h4 ⊢
  have hd : ∀ c r w, n ++ w = c :: r → spC c = false := fun c r w e => by
    cases n with
    | nil => exact absurd rfl hn
    | cons d n => simp at e; rw [← e.1]; exact (tk_ne d (hc d (by simp))).2.2.2.2
  have h61 : ∀ c ∈ n, (c != 61) = true := fun c hx => by simpa using (tk_ne c (hc c hx)).2.2.2.1
  have ofq : ∀ w, unqL w = some v → ofL (n ++ 61 :: w) = some ⟨lowerL n, v, true⟩ := fun w hw => by
    have t1 : tokL (n ++ 61 :: w) = false := by
      unfold tokL allTk
      have : tokN 61 = false := by decide
      simp [this]
    have t2 : (61 : UInt8) ∈ n ++ 61 :: w := by simp
    have t3 : (n ++ 61 :: w).takeWhile (· != 61) = n := by
      rw [List.takeWhile_append_of_pos h61, List.takeWhile_cons_of_neg (by simp), List.append_nil]
    have t4 : (n ++ 61 :: w).dropWhile (· != 61) = 61 :: w := by
      rw [List.dropWhile_append_of_pos h61, List.dropWhile_cons_of_neg (by simp)]
    unfold ofL
    rw [if_neg (by simp [t1]), if_pos t2, t3, t4]
    simp [hw, h1]
  have hp : p = ⟨p.n, p.v, p.h⟩ := rfl
  have add : ∀ t : List UInt8, t ≠ [] → trimL t = t → addEl t = [t] := fun t a b => by unfold addEl; rw [b, if_neg a]
  have dl : ∀ (w : List UInt8) r d, (∀ c ∈ w, tokN c.toNat = true) → w ≠ [] → ∀ u, u ++ w = r ++ [d] → spC d = false := fun w r d hw hne u e => by
    rcases List.eq_nil_or_concat w with rfl | ⟨w', b, rfl⟩
    · exact absurd rfl hne
    · rw [List.concat_eq_append, ← List.append_assoc] at e
      have := List.append_inj' e rfl
      have hb : b = d := by simpa using this.2
      rw [← hb]; exact (tk_ne b (hw b (by simp))).2.2.2.2
  rcases h4 with ⟨rfl, rfl, h5⟩ | ⟨h5, ⟨h6, rfl⟩ | ⟨h6, rfl⟩⟩
  · refine ⟨fun r => by rw [spl_tk _ _ _ _ hc, List.nil_append], add _ hn (trim_hl _ (fun c r e => hd c r [] (by simpa using e)) (fun r d e => dl _ r d hc hn [] (by simpa using e))), ?_⟩
    unfold ofL; rw [if_pos h1, hp, h2, h3, h5]
  · refine ⟨fun r => ?_, add _ (by simp) (trim_hl _ (fun c r e => hd c r _ e) (fun r d e => ?_)), ?_⟩
    · rw [List.append_assoc, spl_tk _ _ _ _ hc, List.cons_append, spl_o _ _ _ _ (by decide) (by simp) (by simp), spl_quo]; simp
    · have s1 : spC 34 = false := by decide
      unfold quoL at e
      rw [show n ++ 61 :: 34 :: (escL v ++ [34]) = (n ++ 61 :: 34 :: escL v) ++ [34] by simp] at e
      have := List.append_inj' e rfl
      have hb : (34 : UInt8) = d := by simpa using this.2
      rw [← hb]; exact s1
    · rw [ofq _ (unqL_quo v h6), hp, h2, h3, h5]
  · obtain ⟨hvn, hvc⟩ := tok_b h6
    refine ⟨fun r => ?_, add _ (by simp) (trim_hl _ (fun c r e => hd c r _ e) (fun r d e => ?_)), ?_⟩
    · rw [List.append_assoc, spl_tk _ _ _ _ hc, List.cons_append, spl_o _ _ _ _ (by decide) (by simp) (by simp), spl_tk _ _ _ _ hvc]; simp
    · exact dl v r d hvc hvn (n ++ [61]) (by simpa using e)
    · rw [ofq _ (by unfold unqL; rw [if_pos h6]), hp, h2, h3, h5]
theorem split_joinP : ∀ l : List It, (∀ x ∈ l, ItOk x) → splitL (joinP l) = some (l.map It.t)
  | [], _ => by rw [show joinP [] = [] from rfl, split_nil]; rfl
  | x :: l, h => by
    obtain ⟨f1, f2, f3⟩ := it_facts x (h x (by simp))
    have ih := split_joinP l fun y hy => h y (by simp [hy])
    rw [show joinP (x :: l) = x.t ++ (44 :: 32 :: joinP l) by unfold joinP; rw [List.flatMap_cons]; simp]
    rw [show splitL (x.t ++ (44 :: 32 :: joinP l)) = spl false [] (x.t ++ (44 :: 32 :: joinP l)) from rfl, f1, spl_c _ _ _ _ (by decide) (by simp) (by simp), f2]
    rw [show spl false [] (32 :: joinP l) = splitL (32 :: joinP l) from rfl, split_32, ih]; rfl
theorem pairs_joinP (l : List It) (h : ∀ x ∈ l, ItOk x) : pairsL [⟨[120], joinP l⟩] [120] = wantP l := by
  unfold pairsL
  rw [show allL [⟨[120], joinP l⟩] [120] = joinP l by simp [allL, allS], split_joinP l h]
  simp only
  unfold wantP
  induction l with
  | nil => rfl
  | cons x l ih =>
    rw [List.map_cons, List.filterMap_cons, (it_facts x (h x (by simp))).2.2, List.map_cons, ih (fun y hy => h y (by simp [hy]))]
theorem Tp_piece : PieceOk ETp 3 (8, pTp, specTp) := by
  refine piece_loop mixed (calls_envC cTp_ok) (lok_envC _ _ _) lm_none (n := 60) (by kernel_rfl) (fun _ => (⟨[], [], 0, []⟩ : StTp)) (fun g s => s.i ≤ g.l.length ∧ s.i ≤ 12 ∧ s.want.length ≤ s.i ∧ s.line.length ≤ s.i * 905 ∧ s.line = joinP s.its ∧ s.want = wantP s.its ∧ (∀ x ∈ s.its, ItOk x)) (fun g s => g.l.length - s.i) (sl := slTp) (rl := rlTp) (fun g hg => ⟨Nat.zero_le _, Nat.zero_le _, Nat.le_refl _, Nat.le_refl _, rfl, rfl, fun q hq => by simp at hq⟩) (fun g s hg hi => ?_)
  refine (Tp_round g s _ _).mpr ?_
  obtain ⟨line, want, i, its⟩ := s
  obtain ⟨h1, h2, h3, h4, h5, h6, h7⟩ := hi
  obtain ⟨g1, g2, g3, g4, g5⟩ := hg
  have hm : maxLen = 9223372036854775807 := by unfold maxLen; rfl
  simp only at h1 h2 h3 h4 h5 h6 h7
  simp only [ofNat_eq, toNat_cast, Nat.zero_add, Nat.add_zero, Nat.mul_one, List.drop_zero, bCells_len, bCells_drop, bCells_take, bCells_app, bCells_one, bCells_plain, List.length_replicate, List.length_append, List.length_take, List.length_drop, List.take_length, and_true, true_and, and_self, decide_true, List.length_nil, List.length_cons, Nat.sub_zero, dB_mk, dB_ro, List.take_zero, sPl, sLen, bs_nil, bPl, bLen, pPl, pLen]
  have hend : ∃ y : StTp, (y.line = joinP y.its ∧ y.want = wantP y.its ∧ y.line.length ≤ 10900 ∧ y.want.length ≤ 12 ∧ (∀ x ∈ y.its, ItOk x)) ∧ bs y.line = bs line ∧ y.want.length = want.length ∧ gC enP y.want = gC enP want :=
    ⟨⟨line, want, i, its⟩, ⟨h5, h6, by simp only; omega, by simp only; omega, h7⟩, rfl, rfl, rfl⟩
  refine br_if (fun h => br_if (fun h' => br_dec (by omega) ?_) (fun _ => hend)) (fun _ => hend)
  have hi : i < g.l.length := by omega
  obtain ⟨c1, c2⟩ := sGet g.l i hi
  have hx : g.l[i].length ≤ maxLen := g2 _ (List.getElem_mem hi)
  have w := i64_succ (show i < 9223372036854775807 by omega)
  simp only [c1, c2, shortS_bs, bs_len, w, strEq_bs, tokS_bs, lowS_bs, bs_dd]
  obtain ⟨x, hxx⟩ : ∃ x, x = g.l[i].take 300 := ⟨_, rfl⟩
  have hx3 : x.length ≤ 300 := by rw [hxx, List.length_take]; omega
  rw [← hxx]
  clear hxx c1 c2
  have leaf : ∀ (t : List UInt8) (p : Pr), ItOk ⟨t, p⟩ → t.length ≤ 903 → ∃ j : StTp, (j.i ≤ g.l.length ∧ j.i ≤ 12 ∧ j.want.length ≤ j.i ∧ j.line.length ≤ j.i * 905 ∧ j.line = joinP j.its ∧ j.want = wantP j.its ∧ ∀ x ∈ j.its, ItOk x) ∧
      g.l.length - j.i < g.l.length - i ∧ bs j.line = bs (line ++ t ++ [44, 32]) ∧ j.want.length = want.length + 1 ∧ (j.i : Int) = ((i + 1 : Nat) : Int) ∧ gC enP j.want = gC enP (want ++ [p]) := fun t p hp ht => by
    refine ⟨⟨line ++ t ++ [44, 32], want ++ [p], i + 1, its ++ [⟨t, p⟩]⟩, ⟨by simp only; omega, by simp only; omega, by simp only [List.length_append, List.length_singleton]; omega, by simp only [List.length_append, List.length_cons, List.length_nil]; omega, ?_, ?_, ?_⟩, by simp only; omega, rfl, by simp, rfl, rfl⟩
    · simp only; rw [h5]; simp [joinP]
    · simp only; rw [h6]; simp [wantP]
    · intro y hy
      rcases List.mem_append.1 hy with hy | hy
      · exact h7 y hy
      · rw [List.mem_singleton] at hy; subst hy; exact hp
  refine ⟨trivial, by omega, by omega, br_intro (fun _ => ?_) (fun ht => ⟨by omega, ?_⟩)⟩
  · exact ⟨⟨line, want, i + 1, its⟩, ⟨by simp only; omega, by simp only; omega, by simp only; omega, Nat.le_trans h4 (Nat.mul_le_mul_right _ (Nat.le_succ _)), h5, h6, h7⟩, by simp only; omega, rfl, rfl, rfl, rfl⟩
  have ht : tokL x = true := by simpa using ht
  have e61 : (⟨#[61]⟩ : ByteArray) = bs [61] := rfl
  have e44 : (⟨#[44, 32]⟩ : ByteArray) = bs [44, 32] := rfl
  have plain : ItOk ⟨x, ⟨lowerL x, [], false⟩⟩ := ⟨x, [], ht, rfl, rfl, Or.inl ⟨rfl, rfl, rfl⟩⟩
  refine br_if (fun hv => br_dec (by omega) ?_) (fun hv => ?_)
  rotate_left
  · simp (disch := omega) only [brT, e61, e44, bs_app, pTake, pOne1, gC_app]
    exact leaf x _ plain (by omega)
  have hv' : i < g.v.length := by omega
  obtain ⟨c1, c2⟩ := sGet g.v i hv'
  have hy : g.v[i].length ≤ maxLen := g4 _ (List.getElem_mem hv')
  simp only [c1, c2, shortS_bs, bs_len, tokS_bs, quoB_bs]
  obtain ⟨y, hyy⟩ : ∃ y, y = g.v[i].take 300 := ⟨_, rfl⟩
  have hy3 : y.length ≤ 300 := by rw [hyy, List.length_take]; omega
  rw [← hyy]
  clear hyy c1 c2
  have hlen := quoL_len y
  have tokc : tokL y = true → ItOk ⟨x ++ [61] ++ y, ⟨lowerL x, y, true⟩⟩ := fun h => ⟨x, y, ht, rfl, rfl, Or.inr ⟨rfl, Or.inr ⟨h, by simp⟩⟩⟩
  have quoc : okQ y = true → ItOk ⟨x ++ [61] ++ quoL y, ⟨lowerL x, y, true⟩⟩ := fun h => ⟨x, y, ht, rfl, rfl, Or.inr ⟨rfl, Or.inl ⟨h, by simp⟩⟩⟩
  have rest : ∀ A B : Prop, (tokL y = true → A) → B → br (tokL y) A B := fun A B a b => br_intro a (fun _ => b)
  refine ⟨trivial, by omega, by omega, ?_⟩
  have second : ∀ X : Prop, X → y.length ≤ 9223372036854775807 ∧ X := fun X h => ⟨by omega, h⟩
  by_cases hq : okQ y = true
  · simp only [quoS_bs y hq, bs_dd, hq]
    simp (disch := omega) only [brT, e61, e44, bs_app, pTake, pOne1, gC_app, List.length_append, List.length_singleton]
    have l1 := leaf _ _ (quoc hq) (by simp only [List.length_append, List.length_singleton]; omega)
    have l2 := fun h => leaf _ _ (tokc h) (by simp only [List.length_append, List.length_singleton]; omega)
    have l3 := leaf x _ plain (by omega)
    refine br_if (fun h => br_dec (by omega) ⟨bAt _ _ (by omega), br_intro (fun _ => br_b rfl l1) (fun _ => second _ (rest _ _ l2 l3))⟩) (fun _ => second _ (rest _ _ l2 l3))
  · have hq' : okQ y = false := by simpa using hq
    simp only [bs_dd, hq']
    simp (disch := omega) only [brT, e61, e44, bs_app, pTake, pOne1, gC_app, List.length_append, List.length_singleton]
    have l2 := fun h => leaf _ _ (tokc h) (by simp only [List.length_append, List.length_singleton]; omega)
    have l3 := leaf x _ plain (by omega)
    refine br_if (fun h => br_dec (by omega) ⟨bAt _ _ (by omega), br_intro (fun _ => br_nb rfl (second _ (rest _ _ l2 l3))) (fun _ => second _ (rest _ _ l2 l3))⟩) (fun _ => second _ (rest _ _ l2 l3))
theorem Tq_piece : PieceOk ETp 3 (8, pTq, specTq) := by
  refine piece_loop mixed (calls_envC cTp_ok) (lok_envC _ _ _) lm_none (n := 60) (by kernel_rfl) (fun _ => (0 : Nat)) (fun g i => i ≤ g.w.length) (fun g i => g.w.length - i) (sl := slTq) (rl := fun g _ => rlTq g) (fun g hg => Nat.zero_le _) (fun g i hg hi => ?_)
  refine (Tq_round g i _ _).mpr ?_
  simp only [ofNat_eq, toNat_cast, Nat.zero_add, Nat.add_zero, Nat.mul_one, List.drop_zero, bCells_len, bCells_drop, bCells_take, bCells_app, bCells_one, bCells_plain, List.length_replicate, List.length_append, List.length_take, List.length_drop, List.take_length, and_true, true_and, and_self, decide_true, List.length_nil, List.length_cons, Nat.sub_zero, dB_mk, dB_ro, List.take_zero, sPl, sLen, bs_nil, bPl, bLen, pPl, pLen]
  have hw : g.w.length ≤ 100 := hg
  refine br_if (fun h => br_dec (by omega) ?_) (fun _ => ⟨(), trivial⟩)
  have hi' : i < g.w.length := by omega
  obtain ⟨d1, d2, d3, d4, d5, d6⟩ := pGet g.w i hi'
  have d3' : (gC enP g.w)[i * 3 + 1 + 1]? = some (.bool g.w[i].h) := d3
  have d6' : cellB (gC enP g.w) (i * 3 + 1 + 1) = g.w[i].h := d6
  have w := i64_succ (show i < 9223372036854775807 by omega)
  simp only [d1, d2, d3', d4, d5, d6', w, true_and]
  exact br_dec (by omega) (br_nb (by simp [bs_same]) ⟨i + 1, by omega, by omega, rfl⟩)
theorem tp_law (l v : List (List UInt8)) (q : List Bool) (hl : l.length ≤ maxLen) (hx : ∀ x ∈ l, x.length ≤ maxLen) (hv : v.length ≤ maxLen) (hy : ∀ x ∈ v, x.length ≤ maxLen) (hq : q.length ≤ maxLen) : Con Try.prog 8 [.slice (some ⟨0, 0, none⟩) l.length 1, .slice (some ⟨1, 0, none⟩) v.length 1, .slice (some ⟨2, 0, none⟩) q.length 1] [gRo enS l, gRo enS v, gRo enB q] (.bool true) [gRo enS l, gRo enS v, gRo enB q] := by
  refine con_vc (E := ETp) mixed (calls_envC cTp_ok) (lok_envC _ _ _) (M := mTp) (lm_two Tp_piece Tq_piece) (Tp_vc l v q) ?_
  have hm : maxLen = 9223372036854775807 := by unfold maxLen; rfl
  simp only [ofNat_eq, toNat_cast, Nat.zero_add, Nat.add_zero, Nat.mul_one, List.drop_zero, bCells_len, bCells_drop, bCells_take, bCells_app, bCells_one, bCells_plain, List.length_replicate, List.length_append, List.length_take, List.length_drop, List.take_length, and_true, true_and, and_self, decide_true, List.length_nil, List.length_cons, Nat.sub_zero, dB_mk, dB_ro, List.take_zero, sPl, sLen, bs_nil, bPl, bLen]
  refine ⟨⟨l, v, q⟩, ⟨by simp only; omega, hx, by simp only; omega, hy, by simp only; omega⟩, rfl, rfl, rfl, rfl, rfl, rfl, fun y hy => ?_⟩
  obtain ⟨k1, k2, k3, k4, k5⟩ := hy
  have hp := pairs_joinP y.its k5
  rw [← k1, ← k2] at hp
  have ha : allL [⟨[120], y.line⟩] [120] = y.line := by simp [allL, allS]
  have hr : ∀ b o, prL ⟨[.string ⟨#[120]⟩, .string (bs y.line)], b, o⟩ ⟨#[120]⟩ = y.want := fun b o => by
    unfold prL; simp only
    rw [show (⟨#[120]⟩ : ByteArray) = bs [120] from rfl, fOne1, decF_gC, L_bs, hp]
  have hb : ∀ b o, alB ⟨[.string ⟨#[120]⟩, .string (bs y.line)], b, o⟩ ⟨#[120]⟩ = y.line.length := fun b o => by
    unfold alB; simp only
    rw [show (⟨#[120]⟩ : ByteArray) = bs [120] from rfl, fOne1, decF_gC, L_bs, ha]
  have hc : ∀ b o, prC ⟨[.string ⟨#[120]⟩, .string (bs y.line)], b, o⟩ ⟨#[120]⟩ = gC enP y.want := fun b o => by unfold prC; rw [hr]
  have hn : ∀ b o, prN ⟨[.string ⟨#[120]⟩, .string (bs y.line)], b, o⟩ ⟨#[120]⟩ = y.want.length := fun b o => by unfold prN; rw [hr]
  simp only [hb, hc, hn, pPl]
  refine ⟨⟨⟨Nat.le_refl _, by rw [show (⟨#[120]⟩ : ByteArray) = bs [120] from rfl, fOne1]; exact fPl _⟩, trivial, isF_mk [⟨[120], y.line⟩] _ rfl, by omega, by omega⟩, br_nb (by simp) ⟨⟨⟨l, v, q⟩, y.want⟩, by simp only; omega, rfl, rfl, rfl, rfl, rfl, rfl, trivial, rfl, trivial, fun _ _ => ⟨rfl, rfl, rfl⟩⟩⟩
end Go.Proofs.Ytllpeacofilbcaa.tk
