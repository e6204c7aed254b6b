/- A request, a response out of fields. -/
import Derived.Test.YteodlmfnkjdhhaaSz9
import Derived.Test.YteodlmfnkjdhhaaRows
import Derived.Test.YteodlmfnkjdhhaaLmsScan
set_option linter.unusedSimpArgs false
set_option linter.unusedVariables false
namespace Go.Proofs.Yteodlmfnkjdhhaa.tk
open Go Go.Ev Go.Sy Go.RowKit Go.Proofs.Yteodlmfnkjdhhaa.gl
noncomputable def tRq : List EntM := [ePs, eVal, eNm, eLen, ePl, eCp]
noncomputable abbrev EtRq : Env := envT Try.prog tRq
noncomputable def tRs : List EntM := [eDig, eLen, ePl]
noncomputable abbrev EtRs : Env := envT Try.prog tRs
def zRq : List Value := [.string ⟨#[]⟩, .string ⟨#[]⟩, .string ⟨#[]⟩, .string ⟨#[]⟩, .slice none 0 0, .int .i64 0]
def rCells (r : RqP) : List Value := [.string (bs r.m), .string (bs r.s), .string (bs r.a), .string (bs r.p), .slice none 0 0, .int .i64 0]
def pRq : List Nat := [0, 1, 0, 1, 1, 1]
structure StR where
  r : RqP
  i : Nat
def slRq0 (l : List Fl) : List (Nat × Value) := [(0, .slice (some ⟨0, 0, none⟩) l.length 2), (2, .pointer (some ⟨1, 0, none⟩)), (4, .int .i64 (psN l : Nat)), (5, .pointer (some ⟨2, 0, none⟩))]
def slRq (l : List Fl) (s : StR) : List (Nat × Value) := slRq0 l ++ [(13, .slice (some ⟨0, 0, none⟩) (psN l) 2), (14, .int .i64 (psN l : Nat)), (15, .int .i64 (s.i : Nat))]
def rlRq (l : List Fl) (s : StR) : List (Nat × Row) := [(0, gRo enF l), (1, ⟨zRq, false, .cells false⟩), (2, ⟨rCells s.r, false, .cells false⟩)]
def wsRq (l : List Fl) : List (Gate RqP) := [⟨.exit 0, fun r => rqG [] rq0 (l.take (psN l)) = some r, fun _ => slRq0 l, fun r => rlRq l ⟨r, 0⟩, 3⟩, ⟨.ret, fun _ => rqG [] rq0 (l.take (psN l)) = none, fun _ => [(2, .pointer (some ⟨1, 0, none⟩)), (3, .bool false)], fun _ => [(0, gRo enF l), (1, ⟨zRq, false, .cells false⟩)], 2⟩]
def specRq : Sy.Spec := specOf 1 3 66 (fun l : List Fl => l.length ≤ 16777000 ∧ ShortF l) (fun l => slRq l ⟨rq0, 0⟩) (fun l => rlRq l ⟨rq0, 0⟩) wsRq
def mRq := mOf [(10, pRq, specRq)]
noncomputable def eRq : EntM := entC 10 fun a r => match a, r with
  | [.slice (some ⟨0, 0, none⟩) n 2], [r0] => some (IsF r0 n ∧ n ≤ 16777000 ∧ ShR r0, .tuple #[.agg ⟨[.string (rqM r0), .string (rqS r0), .string (rqA r0), .string (rqP r0), .slice (some ⟨1, 0, none⟩) (rqN r0) 2, .int .i64 (rqK r0)]⟩, .bool (rqB r0)], [⟨rqC r0, false, .cells true⟩])
  | _, _ => none
noncomputable def eRs : EntM := entC 11 fun a r => match a, r with
  | [.slice (some ⟨0, 0, none⟩) n 2], [r0] => some (IsF r0 n ∧ n ≤ 16777000 ∧ ShR r0, .tuple #[.agg ⟨[.int .i64 (rsS r0), .slice (some ⟨1, 0, none⟩) (rsN r0) 2, .int .i64 (rsK r0)]⟩, .bool (rsB r0)], [⟨rsC r0, false, .cells true⟩])
  | _, _ => none
theorem Rq_round (l : List Fl) (s : StR) (Inv : StR → Prop) (m : StR → Nat) : mev EtRq noM 60 10 (0 :: pRq) false (codeOf Try.prog 10 (0 :: pRq)) ⟨mkOv (slRq l s), 66, []⟩ none ⟨mkR (rlRq l s), 3⟩ (roundK 1 3 66 Inv m (slRq l) (rlRq l) (wsRq l) s) =
  (br (decide ((↑s.2 : Int) < (↑(psN l) : Int)))
   (br (decide ((0 : Int) ≤ (↑s.2 : Int) ∧ (↑s.2 : Int) < (↑(psN l) : Int)))
    ((Eq (α := Option Value) ((gC enF l)[(0 : Nat) + Int.toNat (↑s.2 : Int) * (2 : Nat)]?) (some (Value.string (cellS (gC enF l) ((0 : Nat) + Int.toNat (↑s.2 : Int) * (2 : Nat)))))) ∧
    ((Eq (α := Option Value) ((gC enF l)[(0 : Nat) + Int.toNat (↑s.2 : Int) * (2 : Nat) + (1 : Nat)]?) (some (Value.string (cellS (gC enF l) ((0 : Nat) + Int.toNat (↑s.2 : Int) * (2 : Nat) + (1 : Nat)))))) ∧
    ((((True ∧ True) ∧ (True ∧ (True ∧ List.length (L (cellS (gC enF l) ((0 : Nat) + Int.toNat (↑s.2 : Int) * (2 : Nat) + (1 : Nat)))) ≤ (9223372036854775807 : Nat))))) ∧
    (br (!valS (cellS (gC enF l) ((0 : Nat) + Int.toNat (↑s.2 : Int) * (2 : Nat) + (1 : Nat))))
     ((Value.string (cellS (gC enF l) ((0 : Nat) + Int.toNat (↑s.2 : Int) * (2 : Nat) + (1 : Nat))) = Value.string (cellS (gC enF l) ((0 : Nat) + Int.toNat (↑s.2 : Int) * (2 : Nat) + (1 : Nat)))) ∧
     (∃ y : RqP, ((Eq (α := Option RqP) (rqG [] rq0 (List.take (psN l) l)) (none)) ∧
     (((0 : Nat) = (0 : Nat)) ∧
     ((false = false) ∧
     ((Eq (α := List Value) (gC enF l) (gC enF l)) ∧
     ((Plain (gC enF l)) ∧
     ((ByteArray.mk #[] = ByteArray.mk #[]) ∧
     ((ByteArray.mk #[] = ByteArray.mk #[]) ∧
     ((ByteArray.mk #[] = ByteArray.mk #[]) ∧
     ((ByteArray.mk #[] = ByteArray.mk #[]) ∧
     (((0 : Int) = (0 : Int)) ∧
     True))))))))))))
     (br (decide ((0 : Int) ≤ (↑(0 : Nat) : Int) ∧ (0 : Int) ≤ (↑s.2 : Int) ∧ (↑s.2 : Int) ≤ (↑(List.length l) : Int)))
      ((((((0 : Nat) + (Int.toNat (↑s.2 : Int) - (0 : Nat)) * (2 : Nat) ≤ List.length (gC enF l) ∧ Plain (List.take ((Int.toNat (↑s.2 : Int) - (0 : Nat)) * (2 : Nat)) (List.drop (0 : Nat) (gC enF l)))) ∧ (True ∧ True)) ∧ ((True ∧ True) ∧ (True ∧ (IsF (Row.mk (List.take ((Int.toNat (↑s.2 : Int) - (0 : Nat)) * (2 : Nat)) (List.drop (0 : Nat) (gC enF l))) true (Ob.cells true)) (Int.toNat (↑s.2 : Int) - (0 : Nat)) ∧ Int.toNat (↑s.2 : Int) - (0 : Nat) ≤ (9223372036854775807 : Nat)))))) ∧
      (br (nmR (Row.mk (List.take ((Int.toNat (↑s.2 : Int) - (0 : Nat)) * (2 : Nat)) (List.drop (0 : Nat) (gC enF l))) true (Ob.cells true)) (cellS (gC enF l) ((0 : Nat) + Int.toNat (↑s.2 : Int) * (2 : Nat))))
       ((Value.string (cellS (gC enF l) ((0 : Nat) + Int.toNat (↑s.2 : Int) * (2 : Nat) + (1 : Nat))) = Value.string (cellS (gC enF l) ((0 : Nat) + Int.toNat (↑s.2 : Int) * (2 : Nat) + (1 : Nat)))) ∧
       (br (decide ((0 : Int) ≤ (↑(0 : Nat) : Int) ∧ (0 : Int) ≤ (↑s.2 : Int) ∧ (↑s.2 : Int) ≤ (↑(List.length l) : Int)))
        ((Value.slice (some (Addr.mk (0 : Nat) (0 : Nat) none)) (Int.toNat (↑s.2 : Int) - (0 : Nat)) (2 : Nat) = Value.slice (some (Addr.mk (0 : Nat) (0 : Nat) none)) (Int.toNat (↑s.2 : Int) - (0 : Nat)) (2 : Nat)) ∧
        ((Value.string (cellS (gC enF l) ((0 : Nat) + Int.toNat (↑s.2 : Int) * (2 : Nat))) = Value.string (cellS (gC enF l) ((0 : Nat) + Int.toNat (↑s.2 : Int) * (2 : Nat)))) ∧
        (∃ y : RqP, ((Eq (α := Option RqP) (rqG [] rq0 (List.take (psN l) l)) (none)) ∧
        (((0 : Nat) = (0 : Nat)) ∧
        ((false = false) ∧
        ((Eq (α := List Value) (gC enF l) (gC enF l)) ∧
        ((Plain (gC enF l)) ∧
        ((ByteArray.mk #[] = ByteArray.mk #[]) ∧
        ((ByteArray.mk #[] = ByteArray.mk #[]) ∧
        ((ByteArray.mk #[] = ByteArray.mk #[]) ∧
        ((ByteArray.mk #[] = ByteArray.mk #[]) ∧
        (((0 : Int) = (0 : Int)) ∧
        True)))))))))))))
        False))
       (br (strEq (cellS (gC enF l) ((0 : Nat) + Int.toNat (↑s.2 : Int) * (2 : Nat))) (ByteArray.mk #[(58 : UInt8), (109 : UInt8), (101 : UInt8), (116 : UInt8), (104 : UInt8), (111 : UInt8), (100 : UInt8)]))
        ((Value.string (cellS (gC enF l) ((0 : Nat) + Int.toNat (↑s.2 : Int) * (2 : Nat) + (1 : Nat))) = Value.string (cellS (gC enF l) ((0 : Nat) + Int.toNat (↑s.2 : Int) * (2 : Nat) + (1 : Nat)))) ∧
        (br (decide ((0 : Int) ≤ (↑(0 : Nat) : Int) ∧ (0 : Int) ≤ (↑s.2 : Int) ∧ (↑s.2 : Int) ≤ (↑(List.length l) : Int)))
         ((Value.slice (some (Addr.mk (0 : Nat) (0 : Nat) none)) (Int.toNat (↑s.2 : Int) - (0 : Nat)) (2 : Nat) = Value.slice (some (Addr.mk (0 : Nat) (0 : Nat) none)) (Int.toNat (↑s.2 : Int) - (0 : Nat)) (2 : Nat)) ∧
         ((Value.string (cellS (gC enF l) ((0 : Nat) + Int.toNat (↑s.2 : Int) * (2 : Nat))) = Value.string (cellS (gC enF l) ((0 : Nat) + Int.toNat (↑s.2 : Int) * (2 : Nat)))) ∧
         ((Value.agg (Array.mk [Value.string (cellS (gC enF l) ((0 : Nat) + Int.toNat (↑s.2 : Int) * (2 : Nat))), Value.string (cellS (gC enF l) ((0 : Nat) + Int.toNat (↑s.2 : Int) * (2 : Nat) + (1 : Nat)))]) = Value.agg (Array.mk [Value.string (cellS (gC enF l) ((0 : Nat) + Int.toNat (↑s.2 : Int) * (2 : Nat))), Value.string (cellS (gC enF l) ((0 : Nat) + Int.toNat (↑s.2 : Int) * (2 : Nat) + (1 : Nat)))])) ∧
         (∃ j : StR, ((Inv j) ∧
         ((m j < m s) ∧
         (((0 : Nat) = (0 : Nat)) ∧
         ((List.length l = List.length l) ∧
         (((0 : Nat) = (0 : Nat)) ∧
         (((↑(psN l) : Int) = (↑(psN l) : Int)) ∧
         (((0 : Nat) = (0 : Nat)) ∧
         (((0 : Nat) = (0 : Nat)) ∧
         ((psN l = psN l) ∧
         (((↑(psN l) : Int) = (↑(psN l) : Int)) ∧
         (((↑j.2 : Int) = IntKind.wrap IntKind.i64 ((↑s.2 : Int) + (1 : Int))) ∧
         ((Eq (α := List Value) (gC enF l) (gC enF l)) ∧
         ((Plain (gC enF l)) ∧
         ((ByteArray.mk #[] = ByteArray.mk #[]) ∧
         ((ByteArray.mk #[] = ByteArray.mk #[]) ∧
         ((ByteArray.mk #[] = ByteArray.mk #[]) ∧
         ((ByteArray.mk #[] = ByteArray.mk #[]) ∧
         (((0 : Int) = (0 : Int)) ∧
         ((bs j.1.1 = cellS (gC enF l) ((0 : Nat) + Int.toNat (↑s.2 : Int) * (2 : Nat) + (1 : Nat))) ∧
         ((bs j.1.2 = bs s.1.2) ∧
         ((bs j.1.3 = bs s.1.3) ∧
         ((bs j.1.4 = bs s.1.4) ∧
         (((0 : Int) = (0 : Int)) ∧
         True)))))))))))))))))))))))))))
         False))
        (br (strEq (cellS (gC enF l) ((0 : Nat) + Int.toNat (↑s.2 : Int) * (2 : Nat))) (ByteArray.mk #[(58 : UInt8), (115 : UInt8), (99 : UInt8), (104 : UInt8), (101 : UInt8), (109 : UInt8), (101 : UInt8)]))
         ((Value.string (cellS (gC enF l) ((0 : Nat) + Int.toNat (↑s.2 : Int) * (2 : Nat) + (1 : Nat))) = Value.string (cellS (gC enF l) ((0 : Nat) + Int.toNat (↑s.2 : Int) * (2 : Nat) + (1 : Nat)))) ∧
         (br (decide ((0 : Int) ≤ (↑(0 : Nat) : Int) ∧ (0 : Int) ≤ (↑s.2 : Int) ∧ (↑s.2 : Int) ≤ (↑(List.length l) : Int)))
          ((Value.slice (some (Addr.mk (0 : Nat) (0 : Nat) none)) (Int.toNat (↑s.2 : Int) - (0 : Nat)) (2 : Nat) = Value.slice (some (Addr.mk (0 : Nat) (0 : Nat) none)) (Int.toNat (↑s.2 : Int) - (0 : Nat)) (2 : Nat)) ∧
          ((Value.string (cellS (gC enF l) ((0 : Nat) + Int.toNat (↑s.2 : Int) * (2 : Nat))) = Value.string (cellS (gC enF l) ((0 : Nat) + Int.toNat (↑s.2 : Int) * (2 : Nat)))) ∧
          ((Value.agg (Array.mk [Value.string (cellS (gC enF l) ((0 : Nat) + Int.toNat (↑s.2 : Int) * (2 : Nat))), Value.string (cellS (gC enF l) ((0 : Nat) + Int.toNat (↑s.2 : Int) * (2 : Nat) + (1 : Nat)))]) = Value.agg (Array.mk [Value.string (cellS (gC enF l) ((0 : Nat) + Int.toNat (↑s.2 : Int) * (2 : Nat))), Value.string (cellS (gC enF l) ((0 : Nat) + Int.toNat (↑s.2 : Int) * (2 : Nat) + (1 : Nat)))])) ∧
          (∃ j : StR, ((Inv j) ∧
          ((m j < m s) ∧
          (((0 : Nat) = (0 : Nat)) ∧
          ((List.length l = List.length l) ∧
          (((0 : Nat) = (0 : Nat)) ∧
          (((↑(psN l) : Int) = (↑(psN l) : Int)) ∧
          (((0 : Nat) = (0 : Nat)) ∧
          (((0 : Nat) = (0 : Nat)) ∧
          ((psN l = psN l) ∧
          (((↑(psN l) : Int) = (↑(psN l) : Int)) ∧
          (((↑j.2 : Int) = IntKind.wrap IntKind.i64 ((↑s.2 : Int) + (1 : Int))) ∧
          ((Eq (α := List Value) (gC enF l) (gC enF l)) ∧
          ((Plain (gC enF l)) ∧
          ((ByteArray.mk #[] = ByteArray.mk #[]) ∧
          ((ByteArray.mk #[] = ByteArray.mk #[]) ∧
          ((ByteArray.mk #[] = ByteArray.mk #[]) ∧
          ((ByteArray.mk #[] = ByteArray.mk #[]) ∧
          (((0 : Int) = (0 : Int)) ∧
          ((bs j.1.1 = bs s.1.1) ∧
          ((bs j.1.2 = cellS (gC enF l) ((0 : Nat) + Int.toNat (↑s.2 : Int) * (2 : Nat) + (1 : Nat))) ∧
          ((bs j.1.3 = bs s.1.3) ∧
          ((bs j.1.4 = bs s.1.4) ∧
          (((0 : Int) = (0 : Int)) ∧
          True)))))))))))))))))))))))))))
          False))
         (br (strEq (cellS (gC enF l) ((0 : Nat) + Int.toNat (↑s.2 : Int) * (2 : Nat))) (ByteArray.mk #[(58 : UInt8), (97 : UInt8), (117 : UInt8), (116 : UInt8), (104 : UInt8), (111 : UInt8), (114 : UInt8), (105 : UInt8), (116 : UInt8), (121 : UInt8)]))
          ((Value.string (cellS (gC enF l) ((0 : Nat) + Int.toNat (↑s.2 : Int) * (2 : Nat) + (1 : Nat))) = Value.string (cellS (gC enF l) ((0 : Nat) + Int.toNat (↑s.2 : Int) * (2 : Nat) + (1 : Nat)))) ∧
          (br (decide ((0 : Int) ≤ (↑(0 : Nat) : Int) ∧ (0 : Int) ≤ (↑s.2 : Int) ∧ (↑s.2 : Int) ≤ (↑(List.length l) : Int)))
           ((Value.slice (some (Addr.mk (0 : Nat) (0 : Nat) none)) (Int.toNat (↑s.2 : Int) - (0 : Nat)) (2 : Nat) = Value.slice (some (Addr.mk (0 : Nat) (0 : Nat) none)) (Int.toNat (↑s.2 : Int) - (0 : Nat)) (2 : Nat)) ∧
           ((Value.string (cellS (gC enF l) ((0 : Nat) + Int.toNat (↑s.2 : Int) * (2 : Nat))) = Value.string (cellS (gC enF l) ((0 : Nat) + Int.toNat (↑s.2 : Int) * (2 : Nat)))) ∧
           ((Value.agg (Array.mk [Value.string (cellS (gC enF l) ((0 : Nat) + Int.toNat (↑s.2 : Int) * (2 : Nat))), Value.string (cellS (gC enF l) ((0 : Nat) + Int.toNat (↑s.2 : Int) * (2 : Nat) + (1 : Nat)))]) = Value.agg (Array.mk [Value.string (cellS (gC enF l) ((0 : Nat) + Int.toNat (↑s.2 : Int) * (2 : Nat))), Value.string (cellS (gC enF l) ((0 : Nat) + Int.toNat (↑s.2 : Int) * (2 : Nat) + (1 : Nat)))])) ∧
           (∃ j : StR, ((Inv j) ∧
           ((m j < m s) ∧
           (((0 : Nat) = (0 : Nat)) ∧
           ((List.length l = List.length l) ∧
           (((0 : Nat) = (0 : Nat)) ∧
           (((↑(psN l) : Int) = (↑(psN l) : Int)) ∧
           (((0 : Nat) = (0 : Nat)) ∧
           (((0 : Nat) = (0 : Nat)) ∧
           ((psN l = psN l) ∧
           (((↑(psN l) : Int) = (↑(psN l) : Int)) ∧
           (((↑j.2 : Int) = IntKind.wrap IntKind.i64 ((↑s.2 : Int) + (1 : Int))) ∧
           ((Eq (α := List Value) (gC enF l) (gC enF l)) ∧
           ((Plain (gC enF l)) ∧
           ((ByteArray.mk #[] = ByteArray.mk #[]) ∧
           ((ByteArray.mk #[] = ByteArray.mk #[]) ∧
           ((ByteArray.mk #[] = ByteArray.mk #[]) ∧
           ((ByteArray.mk #[] = ByteArray.mk #[]) ∧
           (((0 : Int) = (0 : Int)) ∧
           ((bs j.1.1 = bs s.1.1) ∧
           ((bs j.1.2 = bs s.1.2) ∧
           ((bs j.1.3 = cellS (gC enF l) ((0 : Nat) + Int.toNat (↑s.2 : Int) * (2 : Nat) + (1 : Nat))) ∧
           ((bs j.1.4 = bs s.1.4) ∧
           (((0 : Int) = (0 : Int)) ∧
           True)))))))))))))))))))))))))))
           False))
          (br (strEq (cellS (gC enF l) ((0 : Nat) + Int.toNat (↑s.2 : Int) * (2 : Nat))) (ByteArray.mk #[(58 : UInt8), (112 : UInt8), (97 : UInt8), (116 : UInt8), (104 : UInt8)]))
           ((Value.string (cellS (gC enF l) ((0 : Nat) + Int.toNat (↑s.2 : Int) * (2 : Nat) + (1 : Nat))) = Value.string (cellS (gC enF l) ((0 : Nat) + Int.toNat (↑s.2 : Int) * (2 : Nat) + (1 : Nat)))) ∧
           (br (decide ((0 : Int) ≤ (↑(0 : Nat) : Int) ∧ (0 : Int) ≤ (↑s.2 : Int) ∧ (↑s.2 : Int) ≤ (↑(List.length l) : Int)))
            ((Value.slice (some (Addr.mk (0 : Nat) (0 : Nat) none)) (Int.toNat (↑s.2 : Int) - (0 : Nat)) (2 : Nat) = Value.slice (some (Addr.mk (0 : Nat) (0 : Nat) none)) (Int.toNat (↑s.2 : Int) - (0 : Nat)) (2 : Nat)) ∧
            ((Value.string (cellS (gC enF l) ((0 : Nat) + Int.toNat (↑s.2 : Int) * (2 : Nat))) = Value.string (cellS (gC enF l) ((0 : Nat) + Int.toNat (↑s.2 : Int) * (2 : Nat)))) ∧
            ((Value.agg (Array.mk [Value.string (cellS (gC enF l) ((0 : Nat) + Int.toNat (↑s.2 : Int) * (2 : Nat))), Value.string (cellS (gC enF l) ((0 : Nat) + Int.toNat (↑s.2 : Int) * (2 : Nat) + (1 : Nat)))]) = Value.agg (Array.mk [Value.string (cellS (gC enF l) ((0 : Nat) + Int.toNat (↑s.2 : Int) * (2 : Nat))), Value.string (cellS (gC enF l) ((0 : Nat) + Int.toNat (↑s.2 : Int) * (2 : Nat) + (1 : Nat)))])) ∧
            (∃ j : StR, ((Inv j) ∧
            ((m j < m s) ∧
            (((0 : Nat) = (0 : Nat)) ∧
            ((List.length l = List.length l) ∧
            (((0 : Nat) = (0 : Nat)) ∧
            (((↑(psN l) : Int) = (↑(psN l) : Int)) ∧
            (((0 : Nat) = (0 : Nat)) ∧
            (((0 : Nat) = (0 : Nat)) ∧
            ((psN l = psN l) ∧
            (((↑(psN l) : Int) = (↑(psN l) : Int)) ∧
            (((↑j.2 : Int) = IntKind.wrap IntKind.i64 ((↑s.2 : Int) + (1 : Int))) ∧
            ((Eq (α := List Value) (gC enF l) (gC enF l)) ∧
            ((Plain (gC enF l)) ∧
            ((ByteArray.mk #[] = ByteArray.mk #[]) ∧
            ((ByteArray.mk #[] = ByteArray.mk #[]) ∧
            ((ByteArray.mk #[] = ByteArray.mk #[]) ∧
            ((ByteArray.mk #[] = ByteArray.mk #[]) ∧
            (((0 : Int) = (0 : Int)) ∧
            ((bs j.1.1 = bs s.1.1) ∧
            ((bs j.1.2 = bs s.1.2) ∧
            ((bs j.1.3 = bs s.1.3) ∧
            ((bs j.1.4 = cellS (gC enF l) ((0 : Nat) + Int.toNat (↑s.2 : Int) * (2 : Nat) + (1 : Nat))) ∧
            (((0 : Int) = (0 : Int)) ∧
            True)))))))))))))))))))))))))))
            False))
           ((Value.string (cellS (gC enF l) ((0 : Nat) + Int.toNat (↑s.2 : Int) * (2 : Nat) + (1 : Nat))) = Value.string (cellS (gC enF l) ((0 : Nat) + Int.toNat (↑s.2 : Int) * (2 : Nat) + (1 : Nat)))) ∧
           (br (decide ((0 : Int) ≤ (↑(0 : Nat) : Int) ∧ (0 : Int) ≤ (↑s.2 : Int) ∧ (↑s.2 : Int) ≤ (↑(List.length l) : Int)))
            ((Value.slice (some (Addr.mk (0 : Nat) (0 : Nat) none)) (Int.toNat (↑s.2 : Int) - (0 : Nat)) (2 : Nat) = Value.slice (some (Addr.mk (0 : Nat) (0 : Nat) none)) (Int.toNat (↑s.2 : Int) - (0 : Nat)) (2 : Nat)) ∧
            ((Value.string (cellS (gC enF l) ((0 : Nat) + Int.toNat (↑s.2 : Int) * (2 : Nat))) = Value.string (cellS (gC enF l) ((0 : Nat) + Int.toNat (↑s.2 : Int) * (2 : Nat)))) ∧
            ((Value.agg (Array.mk [Value.string (cellS (gC enF l) ((0 : Nat) + Int.toNat (↑s.2 : Int) * (2 : Nat))), Value.string (cellS (gC enF l) ((0 : Nat) + Int.toNat (↑s.2 : Int) * (2 : Nat) + (1 : Nat)))]) = Value.agg (Array.mk [Value.string (cellS (gC enF l) ((0 : Nat) + Int.toNat (↑s.2 : Int) * (2 : Nat))), Value.string (cellS (gC enF l) ((0 : Nat) + Int.toNat (↑s.2 : Int) * (2 : Nat) + (1 : Nat)))])) ∧
            (∃ y : RqP, ((Eq (α := Option RqP) (rqG [] rq0 (List.take (psN l) l)) (none)) ∧
            (((0 : Nat) = (0 : Nat)) ∧
            ((false = false) ∧
            ((Eq (α := List Value) (gC enF l) (gC enF l)) ∧
            ((Plain (gC enF l)) ∧
            ((ByteArray.mk #[] = ByteArray.mk #[]) ∧
            ((ByteArray.mk #[] = ByteArray.mk #[]) ∧
            ((ByteArray.mk #[] = ByteArray.mk #[]) ∧
            ((ByteArray.mk #[] = ByteArray.mk #[]) ∧
            (((0 : Int) = (0 : Int)) ∧
            True))))))))))))))
            False))))))))
      False)))))
    False)
   (∃ y : RqP, ((Eq (α := Option RqP) (rqG [] rq0 (List.take (psN l) l)) (some y)) ∧
   (((0 : Nat) = (0 : Nat)) ∧
   ((List.length l = List.length l) ∧
   (((0 : Nat) = (0 : Nat)) ∧
   (((↑(psN l) : Int) = (↑(psN l) : Int)) ∧
   (((0 : Nat) = (0 : Nat)) ∧
   ((Eq (α := List Value) (gC enF l) (gC enF l)) ∧
   ((Plain (gC enF l)) ∧
   ((ByteArray.mk #[] = ByteArray.mk #[]) ∧
   ((ByteArray.mk #[] = ByteArray.mk #[]) ∧
   ((ByteArray.mk #[] = ByteArray.mk #[]) ∧
   ((ByteArray.mk #[] = ByteArray.mk #[]) ∧
   (((0 : Int) = (0 : Int)) ∧
   ((bs y.1 = bs s.1.1) ∧
   ((bs y.2 = bs s.1.2) ∧
   ((bs y.3 = bs s.1.3) ∧
   ((bs y.4 = bs s.1.4) ∧
   (((0 : Int) = (0 : Int)) ∧
   True)))))))))))))))))))) := by kernel_rfl
theorem Rq_vc (l o : List Fl) (r : RqP) (k : Int) (b : Bool) : mcall EtRq mRq 60 10 [.slice (some ⟨0, 0, none⟩) l.length 2] ⟨mkR (nums 0 [gRo enF l]), 1⟩ (retIs 1 (.tuple #[.agg ⟨[.string (bs r.m), .string (bs r.s), .string (bs r.a), .string (bs r.p), .slice (some ⟨1, 0, none⟩) o.length 2, .int .i64 k]⟩, .bool b]) [gRo enF l, gOwn enF o]) =
  ((((((0 : Nat) + List.length l * (2 : Nat) ≤ List.length (gC enF l) ∧ Plain (List.take (List.length l * (2 : Nat)) (List.drop (0 : Nat) (gC enF l)))) ∧ True) ∧ ((True ∧ True) ∧ (True ∧ (IsF (Row.mk (List.take (List.length l * (2 : Nat)) (List.drop (0 : Nat) (gC enF l))) true (Ob.cells true)) (List.length l) ∧ List.length l ≤ (9223372036854775807 : Nat)))))) ∧
  (br (decide ((0 : Int) ≤ (↑(0 : Nat) : Int) ∧ (0 : Int) ≤ psR (Row.mk (List.take (List.length l * (2 : Nat)) (List.drop (0 : Nat) (gC enF l))) true (Ob.cells true)) ∧ psR (Row.mk (List.take (List.length l * (2 : Nat)) (List.drop (0 : Nat) (gC enF l))) true (Ob.cells true)) ≤ (↑(List.length l) : Int)))
   (∃ g : List Fl, ((List.length g ≤ (16777000 : Nat) ∧ ShortF g) ∧
   (((0 : Nat) = (0 : Nat)) ∧
   ((List.length g = List.length l) ∧
   (((0 : Nat) = (0 : Nat)) ∧
   (((↑(psN g) : Int) = psR (Row.mk (List.take (List.length l * (2 : Nat)) (List.drop (0 : Nat) (gC enF l))) true (Ob.cells true))) ∧
   (((0 : Nat) = (0 : Nat)) ∧
   (((0 : Nat) = (0 : Nat)) ∧
   ((psN g = Int.toNat (psR (Row.mk (List.take (List.length l * (2 : Nat)) (List.drop (0 : Nat) (gC enF l))) true (Ob.cells true))) - (0 : Nat)) ∧
   (((↑(psN g) : Int) = Int.ofNat (Int.toNat (psR (Row.mk (List.take (List.length l * (2 : Nat)) (List.drop (0 : Nat) (gC enF l))) true (Ob.cells true))) - (0 : Nat))) ∧
   (((0 : Int) = (0 : Int)) ∧
   ((Eq (α := List Value) (gC enF g) (gC enF l)) ∧
   ((Plain (gC enF g)) ∧
   ((ByteArray.mk #[] = ByteArray.mk #[]) ∧
   ((ByteArray.mk #[] = ByteArray.mk #[]) ∧
   ((ByteArray.mk #[] = ByteArray.mk #[]) ∧
   ((ByteArray.mk #[] = ByteArray.mk #[]) ∧
   (((0 : Int) = (0 : Int)) ∧
   ((bs (RqP.m (StR.r (StR.mk rq0 (0 : Nat)))) = ByteArray.mk #[]) ∧
   ((bs (RqP.s (StR.r (StR.mk rq0 (0 : Nat)))) = ByteArray.mk #[]) ∧
   ((bs (RqP.a (StR.r (StR.mk rq0 (0 : Nat)))) = ByteArray.mk #[]) ∧
   ((bs (RqP.p (StR.r (StR.mk rq0 (0 : Nat)))) = ByteArray.mk #[]) ∧
   (((0 : Int) = (0 : Int)) ∧
   (∀ (side : Bool), (br (side)
    (∀ (y : RqP), ((rqG [] rq0 (List.take (psN g) g) = some y) →
    (br (decide ((0 : Int) ≤ (↑(psN g) : Int) ∧ (↑(psN g) : Int) ≤ (↑(List.length g) : Int) ∧ (↑(List.length g) : Int) ≤ (↑(List.length g) : Int)))
     ((((((0 : Nat) + Int.toNat (↑(psN g) : Int) * (2 : Nat) + (Int.toNat (↑(List.length g) : Int) - Int.toNat (↑(psN g) : Int)) * (2 : Nat) ≤ List.length (gC enF g) ∧ Plain (List.take ((Int.toNat (↑(List.length g) : Int) - Int.toNat (↑(psN g) : Int)) * (2 : Nat)) (List.drop ((0 : Nat) + Int.toNat (↑(psN g) : Int) * (2 : Nat)) (gC enF g)))) ∧ True) ∧ ((True ∧ True) ∧ (True ∧ (IsF (Row.mk (List.take ((Int.toNat (↑(List.length g) : Int) - Int.toNat (↑(psN g) : Int)) * (2 : Nat)) (List.drop ((0 : Nat) + Int.toNat (↑(psN g) : Int) * (2 : Nat)) (gC enF g))) true (Ob.cells true)) (Int.toNat (↑(List.length g) : Int) - Int.toNat (↑(psN g) : Int)) ∧ (Int.toNat (↑(List.length g) : Int) - Int.toNat (↑(psN g) : Int) ≤ (9223372036854775807 : Nat) ∧ ShR (Row.mk (List.take ((Int.toNat (↑(List.length g) : Int) - Int.toNat (↑(psN g) : Int)) * (2 : Nat)) (List.drop ((0 : Nat) + Int.toNat (↑(psN g) : Int) * (2 : Nat)) (gC enF g))) true (Ob.cells true)))))))) ∧
     (br (decide ((0 : Int) ≤ (↑(psN g) : Int) ∧ (↑(psN g) : Int) ≤ (↑(List.length g) : Int) ∧ (↑(List.length g) : Int) ≤ (↑(List.length g) : Int)))
      ((((((0 : Nat) + Int.toNat (↑(psN g) : Int) * (2 : Nat) + (Int.toNat (↑(List.length g) : Int) - Int.toNat (↑(psN g) : Int)) * (2 : Nat) ≤ List.length (gC enF g) ∧ Plain (List.take ((Int.toNat (↑(List.length g) : Int) - Int.toNat (↑(psN g) : Int)) * (2 : Nat)) (List.drop ((0 : Nat) + Int.toNat (↑(psN g) : Int) * (2 : Nat)) (gC enF g)))) ∧ True) ∧ ((True ∧ True) ∧ (True ∧ (IsF (Row.mk (List.take ((Int.toNat (↑(List.length g) : Int) - Int.toNat (↑(psN g) : Int)) * (2 : Nat)) (List.drop ((0 : Nat) + Int.toNat (↑(psN g) : Int) * (2 : Nat)) (gC enF g))) true (Ob.cells true)) (Int.toNat (↑(List.length g) : Int) - Int.toNat (↑(psN g) : Int)) ∧ (Int.toNat (↑(List.length g) : Int) - Int.toNat (↑(psN g) : Int) ≤ (9223372036854775807 : Nat) ∧ ShR (Row.mk (List.take ((Int.toNat (↑(List.length g) : Int) - Int.toNat (↑(psN g) : Int)) * (2 : Nat)) (List.drop ((0 : Nat) + Int.toNat (↑(psN g) : Int) * (2 : Nat)) (gC enF g))) true (Ob.cells true)))))))) ∧
      (br (!plR (Row.mk (List.take ((Int.toNat (↑(List.length g) : Int) - Int.toNat (↑(psN g) : Int)) * (2 : Nat)) (List.drop ((0 : Nat) + Int.toNat (↑(psN g) : Int) * (2 : Nat)) (gC enF g))) true (Ob.cells true)))
       ((bs r.1 = ByteArray.mk #[]) ∧
       ((bs r.2 = ByteArray.mk #[]) ∧
       ((bs r.3 = ByteArray.mk #[]) ∧
       ((bs r.4 = ByteArray.mk #[]) ∧
       ((List.length o = (0 : Nat)) ∧
       ((k = (0 : Int)) ∧
       ((b = false) ∧
       ((Eq (α := List Value) (gC enF l) (gC enF g)) ∧
       ((Plain (gC enF l)) ∧
       ((Eq (α := List Value) (gC enF o) ([])) ∧
       True))))))))))
       (br (lenR (Row.mk (List.take ((Int.toNat (↑(List.length g) : Int) - Int.toNat (↑(psN g) : Int)) * (2 : Nat)) (List.drop ((0 : Nat) + Int.toNat (↑(psN g) : Int) * (2 : Nat)) (gC enF g))) true (Ob.cells true)) == (-2 : Int))
        ((bs r.1 = ByteArray.mk #[]) ∧
        ((bs r.2 = ByteArray.mk #[]) ∧
        ((bs r.3 = ByteArray.mk #[]) ∧
        ((bs r.4 = ByteArray.mk #[]) ∧
        ((List.length o = (0 : Nat)) ∧
        ((k = (0 : Int)) ∧
        ((b = false) ∧
        ((Eq (α := List Value) (gC enF l) (gC enF g)) ∧
        ((Plain (gC enF l)) ∧
        ((Eq (α := List Value) (gC enF o) ([])) ∧
        True))))))))))
        (((((True ∧ (True ∧ (True ∧ (True ∧ (True ∧ (True ∧ True)))))) ∧ True) ∧ ((True ∧ True) ∧ (True ∧ (IsF (Row.mk [] true (Ob.cells true)) (0 : Nat) ∧ (List.length (L (bs y.1)) ≤ (9223372036854775807 : Nat) ∧ List.length (L (bs y.4)) ≤ (9223372036854775807 : Nat))))))) ∧
        (br (!cpS (bs y.1) (bs y.2) (bs y.3) (bs y.4))
         ((bs r.1 = ByteArray.mk #[]) ∧
         ((bs r.2 = ByteArray.mk #[]) ∧
         ((bs r.3 = ByteArray.mk #[]) ∧
         ((bs r.4 = ByteArray.mk #[]) ∧
         ((List.length o = (0 : Nat)) ∧
         ((k = (0 : Int)) ∧
         ((b = false) ∧
         ((Eq (α := List Value) (gC enF l) (gC enF g)) ∧
         ((Plain (gC enF l)) ∧
         ((Eq (α := List Value) (gC enF o) ([])) ∧
         True))))))))))
         (br (decide ((0 : Int) ≤ (↑(psN g) : Int) ∧ (↑(psN g) : Int) ≤ (↑(List.length g) : Int) ∧ (↑(List.length g) : Int) ≤ (↑(List.length g) : Int)))
          (br (decide ((0 : Nat) + Int.toNat (↑(psN g) : Int) * (2 : Nat) + (Int.toNat (↑(List.length g) : Int) - Int.toNat (↑(psN g) : Int)) * (2 : Nat) ≤ List.length (gC enF g)))
           (br (allOne (List.take ((Int.toNat (↑(List.length g) : Int) - Int.toNat (↑(psN g) : Int)) * (2 : Nat)) (List.drop ((0 : Nat) + Int.toNat (↑(psN g) : Int) * (2 : Nat)) (gC enF g))))
            (br (decide (Int.toNat (↑(List.length g) : Int) - Int.toNat (↑(psN g) : Int) ≤ (16777216 : Nat)))
             ((bs r.1 = bs y.1) ∧
             ((bs r.2 = bs y.2) ∧
             ((bs r.3 = bs y.3) ∧
             ((bs r.4 = bs y.4) ∧
             (((0 : Nat) = (0 : Nat)) ∧
             ((List.length o = Int.toNat (↑(List.length g) : Int) - Int.toNat (↑(psN g) : Int)) ∧
             ((k = lenR (Row.mk (List.take ((Int.toNat (↑(List.length g) : Int) - Int.toNat (↑(psN g) : Int)) * (2 : Nat)) (List.drop ((0 : Nat) + Int.toNat (↑(psN g) : Int) * (2 : Nat)) (gC enF g))) true (Ob.cells true))) ∧
             ((b = true) ∧
             ((Eq (α := List Value) (gC enF l) (gC enF g)) ∧
             ((Plain (gC enF l)) ∧
             ((Eq (α := List Value) (gC enF o) (List.take ((Int.toNat (↑(List.length g) : Int) - Int.toNat (↑(psN g) : Int)) * (2 : Nat)) (List.drop ((0 : Nat) + Int.toNat (↑(psN g) : Int) * (2 : Nat)) (gC enF g)))) ∧
             ((Plain (gC enF o)) ∧
             True))))))))))))
             False)
            False)
           False)
          False))))))
      False))
     False)))
    (∀ (y : RqP), ((rqG [] rq0 (List.take (psN g) g) = none) →
    ((bs r.1 = ByteArray.mk #[]) ∧
    ((bs r.2 = ByteArray.mk #[]) ∧
    ((bs r.3 = ByteArray.mk #[]) ∧
    ((bs r.4 = ByteArray.mk #[]) ∧
    ((List.length o = (0 : Nat)) ∧
    ((k = (0 : Int)) ∧
    ((b = false) ∧
    ((Eq (α := List Value) (gC enF l) (gC enF g)) ∧
    ((Plain (gC enF l)) ∧
    ((Eq (α := List Value) (gC enF o) ([])) ∧
    True)))))))))))))))))))))))))))))))))))))
   False)) := by kernel_rfl
theorem Rsp_vc (l o : List Fl) (st k : Int) (b : Bool) : mcall EtRs noM 60 11 [.slice (some ⟨0, 0, none⟩) l.length 2] ⟨mkR (nums 0 [gRo enF l]), 1⟩ (retIs 1 (.tuple #[.agg ⟨[.int .i64 st, .slice (some ⟨1, 0, none⟩) o.length 2, .int .i64 k]⟩, .bool b]) [gRo enF l, gOwn enF o]) =
  (br (Int.ofNat (List.length l) == (0 : Int))
   ((st = (0 : Int)) ∧
   ((List.length o = (0 : Nat)) ∧
   ((k = (0 : Int)) ∧
   ((b = false) ∧
   ((Eq (α := List Value) (gC enF l) (gC enF l)) ∧
   ((Plain (gC enF l)) ∧
   ((Eq (α := List Value) (gC enF o) ([])) ∧
   True)))))))
   (br (decide ((0 : Int) ≤ (0 : Int) ∧ (0 : Int) < (↑(List.length l) : Int)))
    ((Eq (α := Option Value) ((gC enF l)[(0 : Nat)]?) (some (Value.string (cellS (gC enF l) (0 : Nat))))) ∧
    (br (!strEq (cellS (gC enF l) (0 : Nat)) (ByteArray.mk #[(58 : UInt8), (115 : UInt8), (116 : UInt8), (97 : UInt8), (116 : UInt8), (117 : UInt8), (115 : UInt8)]))
     ((st = (0 : Int)) ∧
     ((List.length o = (0 : Nat)) ∧
     ((k = (0 : Int)) ∧
     ((b = false) ∧
     ((Eq (α := List Value) (gC enF l) (gC enF l)) ∧
     ((Plain (gC enF l)) ∧
     ((Eq (α := List Value) (gC enF o) ([])) ∧
     True)))))))
     (br (decide ((0 : Int) ≤ (0 : Int) ∧ (0 : Int) < (↑(List.length l) : Int)))
      ((Eq (α := Option Value) ((gC enF l)[(1 : Nat)]?) (some (Value.string (cellS (gC enF l) (1 : Nat))))) ∧
      ((((True ∧ (True ∧ (True ∧ True))) ∧ (True ∧ (True ∧ (List.length (L (cellS (gC enF l) (1 : Nat))) ≤ (9223372036854775807 : Nat) ∧ ((0 : Int) ≤ (3 : Int) ∧ ((0 : Int) ≤ (3 : Int) ∧ (3 : Int) ≤ (9 : Int)))))))) ∧
      (br (!dgB (cellS (gC enF l) (1 : Nat)) (3 : Int) (3 : Int))
       ((st = (0 : Int)) ∧
       ((List.length o = (0 : Nat)) ∧
       ((k = (0 : Int)) ∧
       ((b = false) ∧
       ((Eq (α := List Value) (gC enF l) (gC enF l)) ∧
       ((Plain (gC enF l)) ∧
       ((Eq (α := List Value) (gC enF o) ([])) ∧
       True)))))))
       (br (decide (dgI (cellS (gC enF l) (1 : Nat)) (3 : Int) (3 : Int) < (100 : Int)))
        ((st = (0 : Int)) ∧
        ((List.length o = (0 : Nat)) ∧
        ((k = (0 : Int)) ∧
        ((b = false) ∧
        ((Eq (α := List Value) (gC enF l) (gC enF l)) ∧
        ((Plain (gC enF l)) ∧
        ((Eq (α := List Value) (gC enF o) ([])) ∧
        True)))))))
        (br (decide (dgI (cellS (gC enF l) (1 : Nat)) (3 : Int) (3 : Int) > (599 : Int)))
         ((st = (0 : Int)) ∧
         ((List.length o = (0 : Nat)) ∧
         ((k = (0 : Int)) ∧
         ((b = false) ∧
         ((Eq (α := List Value) (gC enF l) (gC enF l)) ∧
         ((Plain (gC enF l)) ∧
         ((Eq (α := List Value) (gC enF o) ([])) ∧
         True)))))))
         (br (dgI (cellS (gC enF l) (1 : Nat)) (3 : Int) (3 : Int) == (101 : Int))
          ((st = (0 : Int)) ∧
          ((List.length o = (0 : Nat)) ∧
          ((k = (0 : Int)) ∧
          ((b = false) ∧
          ((Eq (α := List Value) (gC enF l) (gC enF l)) ∧
          ((Plain (gC enF l)) ∧
          ((Eq (α := List Value) (gC enF o) ([])) ∧
          True)))))))
          (br (decide ((0 : Int) ≤ (1 : Int) ∧ (1 : Int) ≤ (↑(List.length l) : Int) ∧ (↑(List.length l) : Int) ≤ (↑(List.length l) : Int)))
           ((((((2 : Nat) + (Int.toNat (↑(List.length l) : Int) - (1 : Nat)) * (2 : Nat) ≤ List.length (gC enF l) ∧ Plain (List.take ((Int.toNat (↑(List.length l) : Int) - (1 : Nat)) * (2 : Nat)) (List.drop (2 : Nat) (gC enF l)))) ∧ True) ∧ ((True ∧ True) ∧ (True ∧ (IsF (Row.mk (List.take ((Int.toNat (↑(List.length l) : Int) - (1 : Nat)) * (2 : Nat)) (List.drop (2 : Nat) (gC enF l))) true (Ob.cells true)) (Int.toNat (↑(List.length l) : Int) - (1 : Nat)) ∧ (Int.toNat (↑(List.length l) : Int) - (1 : Nat) ≤ (9223372036854775807 : Nat) ∧ ShR (Row.mk (List.take ((Int.toNat (↑(List.length l) : Int) - (1 : Nat)) * (2 : Nat)) (List.drop (2 : Nat) (gC enF l))) true (Ob.cells true)))))))) ∧
           (br (decide ((0 : Int) ≤ (1 : Int) ∧ (1 : Int) ≤ (↑(List.length l) : Int) ∧ (↑(List.length l) : Int) ≤ (↑(List.length l) : Int)))
            ((((((2 : Nat) + (Int.toNat (↑(List.length l) : Int) - (1 : Nat)) * (2 : Nat) ≤ List.length (gC enF l) ∧ Plain (List.take ((Int.toNat (↑(List.length l) : Int) - (1 : Nat)) * (2 : Nat)) (List.drop (2 : Nat) (gC enF l)))) ∧ True) ∧ ((True ∧ True) ∧ (True ∧ (IsF (Row.mk (List.take ((Int.toNat (↑(List.length l) : Int) - (1 : Nat)) * (2 : Nat)) (List.drop (2 : Nat) (gC enF l))) true (Ob.cells true)) (Int.toNat (↑(List.length l) : Int) - (1 : Nat)) ∧ (Int.toNat (↑(List.length l) : Int) - (1 : Nat) ≤ (9223372036854775807 : Nat) ∧ ShR (Row.mk (List.take ((Int.toNat (↑(List.length l) : Int) - (1 : Nat)) * (2 : Nat)) (List.drop (2 : Nat) (gC enF l))) true (Ob.cells true)))))))) ∧
            (br (!plR (Row.mk (List.take ((Int.toNat (↑(List.length l) : Int) - (1 : Nat)) * (2 : Nat)) (List.drop (2 : Nat) (gC enF l))) true (Ob.cells true)))
             ((st = (0 : Int)) ∧
             ((List.length o = (0 : Nat)) ∧
             ((k = (0 : Int)) ∧
             ((b = false) ∧
             ((Eq (α := List Value) (gC enF l) (gC enF l)) ∧
             ((Plain (gC enF l)) ∧
             ((Eq (α := List Value) (gC enF o) ([])) ∧
             True)))))))
             (br (lenR (Row.mk (List.take ((Int.toNat (↑(List.length l) : Int) - (1 : Nat)) * (2 : Nat)) (List.drop (2 : Nat) (gC enF l))) true (Ob.cells true)) == (-2 : Int))
              ((st = (0 : Int)) ∧
              ((List.length o = (0 : Nat)) ∧
              ((k = (0 : Int)) ∧
              ((b = false) ∧
              ((Eq (α := List Value) (gC enF l) (gC enF l)) ∧
              ((Plain (gC enF l)) ∧
              ((Eq (α := List Value) (gC enF o) ([])) ∧
              True)))))))
              (br (decide ((0 : Int) ≤ (1 : Int) ∧ (1 : Int) ≤ (↑(List.length l) : Int) ∧ (↑(List.length l) : Int) ≤ (↑(List.length l) : Int)))
               (br (decide ((2 : Nat) + (Int.toNat (↑(List.length l) : Int) - (1 : Nat)) * (2 : Nat) ≤ List.length (gC enF l)))
                (br (allOne (List.take ((Int.toNat (↑(List.length l) : Int) - (1 : Nat)) * (2 : Nat)) (List.drop (2 : Nat) (gC enF l))))
                 (br (decide (Int.toNat (↑(List.length l) : Int) - (1 : Nat) ≤ (16777216 : Nat)))
                  ((st = dgI (cellS (gC enF l) (1 : Nat)) (3 : Int) (3 : Int)) ∧
                  (((0 : Nat) = (0 : Nat)) ∧
                  ((List.length o = Int.toNat (↑(List.length l) : Int) - (1 : Nat)) ∧
                  ((k = lenR (Row.mk (List.take ((Int.toNat (↑(List.length l) : Int) - (1 : Nat)) * (2 : Nat)) (List.drop (2 : Nat) (gC enF l))) true (Ob.cells true))) ∧
                  ((b = true) ∧
                  ((Eq (α := List Value) (gC enF l) (gC enF l)) ∧
                  ((Plain (gC enF l)) ∧
                  ((Eq (α := List Value) (gC enF o) (List.take ((Int.toNat (↑(List.length l) : Int) - (1 : Nat)) * (2 : Nat)) (List.drop (2 : Nat) (gC enF l)))) ∧
                  ((Plain (gC enF o)) ∧
                  True)))))))))
                  False)
                 False)
                False)
               False))))
            False))
           False)))))))
      False)))
    False)) := by kernel_rfl
theorem tRq_ok : ∀ x ∈ tRq, EntOk Try.prog x := all_cons ePs_ok (all_cons eVal_ok (all_cons eNm_ok (all_cons eLen_ok (all_cons ePl_ok (all_cons eCp_ok (all_nil))))))
theorem tRs_ok : ∀ x ∈ tRs, EntOk Try.prog x := all_cons eDig_ok (all_cons eLen_ok (all_cons ePl_ok (all_nil)))
theorem n_nm (l : List Fl) (b : Bool) (o : Ob) (nm : List UInt8) : nmR ⟨gC enF l, b, o⟩ (bs nm) = nmIn nm l := by unfold nmR; simp only; rw [decF_gC, L_bs]
theorem n_ps (l : List Fl) (b : Bool) (o : Ob) : psR ⟨gC enF l, b, o⟩ = (psN l : Nat) := by unfold psR; simp only; rw [decF_gC]
theorem isF_take (l : List Fl) (i : Nat) (h : i ≤ l.length) : IsF ⟨gC enF (l.take i), true, .cells true⟩ i = True := eq_true (isF_mk _ _ (by simp; omega))
theorem isF_drop (l : List Fl) (i : Nat) : IsF ⟨gC enF (l.drop i), true, .cells true⟩ (l.length - i) = True := eq_true (isF_mk _ _ (by simp))
theorem sh_take {l : List Fl} (h : ShortF l) (i : Nat) : ShortF (l.take i) := fun f hf => h f (List.mem_of_mem_take hf)
theorem sh_drop {l : List Fl} (h : ShortF l) (i : Nat) : ShortF (l.drop i) := fun f hf => h f (List.mem_of_mem_drop hf)
theorem Rq_piece : PieceOk EtRq 1 (10, pRq, specRq) := by
  refine piece_loop mixed (calls_envT tRq_ok) (lok_envT _ _) lm_none (n := 60) (by kernel_rfl) (fun _ : List Fl => (⟨rq0, 0⟩ : StR)) (fun l s => s.i ≤ psN l ∧ rqG [] rq0 (l.take (psN l)) = rqG (l.take s.i) s.r ((l.take (psN l)).drop s.i)) (fun l s => psN l - s.i) (sl := slRq) (rl := rlRq) (fun l hg => ⟨Nat.zero_le _, rfl⟩) (fun l s hg hi => ?_)
  refine (Rq_round l s _ _).mpr ?_
  obtain ⟨r, i⟩ := s
  obtain ⟨h1, h2⟩ := hi
  obtain ⟨g1, g2⟩ := hg
  have hm : maxLen = 9223372036854775807 := by unfold maxLen; rfl
  have hp := psN_le l
  simp only at h1 h2
  simp only [ofNat_eq, toNat_cast, Nat.zero_add, Nat.add_zero, Nat.mul_one, List.drop_zero, bCells_len, bCells_drop, bCells_take, bCells_app, bCells_one, bCells_plain, List.length_replicate, List.length_append, List.length_take, List.length_drop, List.take_length, and_true, true_and, and_self, decide_true, List.length_nil, List.length_cons, Nat.sub_zero, dB_mk, dB_ro, List.take_zero, fPl, bs_dd]
  refine br_if (fun h => br_dec (by omega) ?_) (fun h => ?_)
  rotate_left
  · exact ⟨r, by rw [h2, List.drop_eq_nil_of_le (by simp; omega)]; rfl, rfl, rfl, rfl, rfl⟩
  have hi : i < psN l := by omega
  have hil : i < l.length := by omega
  obtain ⟨c1, c2, c3, c4⟩ := fGet l i hil
  have hd : (l.take (psN l)).drop i = l[i] :: (l.take (psN l)).drop (i + 1) := by
    rw [List.drop_eq_getElem_cons (by simp; omega), List.getElem_take]
  have ht : l.take i ++ [l[i]] = l.take (i + 1) := (List.take_succ_eq_append_getElem hil).symm
  rw [hd, rqG, ht] at h2
  have hs := g2 _ (List.getElem_mem hil)
  have w : IntKind.wrap .i64 ((i : Int) + 1) = ((i + 1 : Nat) : Int) := i64_succ (by omega)
  generalize l[i] = f at *
  have q1 : (⟨#[58, 109, 101, 116, 104, 111, 100]⟩ : ByteArray) = bs sMet := rfl
  have q2 : (⟨#[58, 115, 99, 104, 101, 109, 101]⟩ : ByteArray) = bs sSch := rfl
  have q3 : (⟨#[58, 97, 117, 116, 104, 111, 114, 105, 116, 121]⟩ : ByteArray) = bs sAut := rfl
  have q4 : (⟨#[58, 112, 97, 116, 104]⟩ : ByteArray) = bs sPat := rfl
  simp only [c1, c2, c3, c4, w, strEq_bs, L_bse, valS, tkN, n_nm, isF_take l i (by omega), q1, q2, q3, q4]
  have bnd : (0 : Int) ≤ ((0 : Nat) : Int) ∧ (0 : Int) ≤ (i : Int) ∧ (i : Int) ≤ (l.length : Int) := ⟨by omega, by omega, by omega⟩
  have no : (valL f.v && !nmIn f.n (l.take i)) = false → ∃ y : RqP, rqG [] rq0 (l.take (psN l)) = none := fun h => ⟨rq0, by rw [h2, h]; rfl⟩
  have go : ∀ r', (valL f.v && !nmIn f.n (l.take i)) = true → setP r f = some r' → ∃ j : StR, (j.i ≤ psN l ∧ rqG [] rq0 (l.take (psN l)) = rqG (l.take j.i) j.r ((l.take (psN l)).drop j.i)) ∧ psN l - j.i < psN l - i ∧ (j.i : Int) = ((i + 1 : Nat) : Int) ∧ bs j.r.m = bs r'.m ∧ bs j.r.s = bs r'.s ∧ bs j.r.a = bs r'.a ∧ bs j.r.p = bs r'.p := fun r' h h' =>
    ⟨⟨r', i + 1⟩, ⟨by simp only; omega, by simp only; rw [h2, if_pos h, h']⟩, by simp only; omega, rfl, rfl, rfl, rfl, rfl⟩
  refine ⟨trivial, trivial, by omega, br_intro (fun k => no (by simp at k; simp [k])) (fun k1 => br_dec bnd ⟨⟨⟨by rw [fLen]; omega, fPl _⟩, trivial, by omega⟩, br_intro (fun k => br_dec bnd (no (by simp [k]))) (fun k2 => ?_)⟩)⟩
  have hy : (valL f.v && !nmIn f.n (l.take i)) = true := by simp at k1; simp [k1, k2]
  refine br_if (fun k => br_dec bnd (go ⟨f.v, r.s, r.a, r.p⟩ hy ?_)) (fun a1 => br_if (fun k => br_dec bnd (go ⟨r.m, f.v, r.a, r.p⟩ hy ?_)) (fun a2 => br_if (fun k => br_dec bnd (go ⟨r.m, r.s, f.v, r.p⟩ hy ?_)) (fun a3 => br_if (fun k => br_dec bnd (go ⟨r.m, r.s, r.a, f.v⟩ hy ?_)) (fun a4 => br_dec bnd ⟨rq0, ?_⟩))))
  · unfold setP; rw [if_pos k]
  · unfold setP; rw [if_neg a1, if_pos k]
  · unfold setP; rw [if_neg a1, if_neg a2, if_pos k]
  · unfold setP; rw [if_neg a1, if_neg a2, if_neg a3, if_pos k]
  · rw [h2, if_pos hy]; unfold setP; rw [if_neg a1, if_neg a2, if_neg a3, if_neg a4]
def ShP (r : RqP) : Prop := r.m.length ≤ 1048576 ∧ r.p.length ≤ 1048576
theorem rqG_short : ∀ (l done : List Fl) (r y : RqP), ShortF l → ShP r → rqG done r l = some y → ShP y
  | [], done, r, y, _, hr, h => by simp [rqG] at h; subst h; exact hr
  | f :: l, done, r, y, hs, hr, h => by
    rw [rqG] at h
    split at h
    · split at h
      · simp at h
      · rename_i r' hr'
        have hf := hs f (by simp)
        refine rqG_short l _ r' y (fun x hx => hs x (by simp [hx])) ?_ h
        unfold setP at hr'
        obtain ⟨a, b⟩ := hr
        split at hr'
        · simp at hr'; subst hr'; exact ⟨hf.2, b⟩
        · split at hr'
          · simp at hr'; subst hr'; exact ⟨a, b⟩
          · split at hr'
            · simp at hr'; subst hr'; exact ⟨a, b⟩
            · split at hr'
              · simp at hr'; subst hr'; exact ⟨a, hf.2⟩
              · simp at hr'
    · simp at h
theorem Rq_con (l : List Fl) (h1 : l.length ≤ 16777000) (h2 : ShortF l) : Con Try.prog 10 [.slice (some ⟨0, 0, none⟩) l.length 2] [gRo enF l] (.tuple #[.agg ⟨[.string (bs (rqZ (rqL l)).r.m), .string (bs (rqZ (rqL l)).r.s), .string (bs (rqZ (rqL l)).r.a), .string (bs (rqZ (rqL l)).r.p), .slice (some ⟨1, 0, none⟩) (rqZ (rqL l)).f.length 2, .int .i64 (rqZ (rqL l)).k]⟩, .bool (rqL l).isSome]) [gRo enF l, gOwn enF (rqZ (rqL l)).f] := by
  refine con_vc (E := EtRq) mixed (calls_envT tRq_ok) (lok_envT _ _) (M := mRq) (lm_one Rq_piece) (Rq_vc l _ (rqZ (rqL l)).r _ _) ?_
  have hm : maxLen = 9223372036854775807 := by unfold maxLen; rfl
  have hp := psN_le l
  have q0 : (⟨#[]⟩ : ByteArray) = bs [] := rfl
  simp only [ofNat_eq, toNat_cast, Nat.zero_add, Nat.add_zero, Nat.mul_one, List.drop_zero, bCells_len, bCells_drop, bCells_take, bCells_app, bCells_one, bCells_plain, List.length_replicate, List.length_append, List.length_take, List.length_drop, List.take_length, and_true, true_and, and_self, decide_true, List.length_nil, List.length_cons, Nat.sub_zero, dB_mk, dB_ro, List.take_zero, fPl, bs_dd, n_ps, isF_eq, q0, fTake]
  have cp : ∀ y : RqP, cpS (bs y.m) (bs y.s) (bs y.a) (bs y.p) = cpB y := fun y => rfl
  have i0 : IsF ⟨[], true, .cells true⟩ 0 = True := isF_eq []
  refine ⟨⟨by rw [fLen]; omega, by omega⟩, br_dec (by omega) ⟨l, ⟨h1, h2⟩, rfl, rfl, rfl, rfl, rfl, rfl, rfl, rfl, rfl, br_side (fun y hy => ?_) (fun y hy => ?_)⟩⟩
  rotate_left
  · have e : rqL l = none := by unfold rqL; rw [hy]
    rw [e]; exact ⟨rfl, rfl, rfl, rfl, rfl, rfl, rfl, rfl, rfl⟩
  have hsh := rqG_short _ _ _ _ (sh_take h2 (psN l)) ⟨Nat.zero_le _, Nat.zero_le _⟩ hy
  obtain ⟨s1, s2⟩ := hsh
  have hr : rqL l = if plL (l.drop (psN l)) && (!decide (lenL (l.drop (psN l)) = -2) && cpB y) then some ⟨y, lenL (l.drop (psN l)), l.drop (psN l)⟩ else none := by unfold rqL; rw [hy]
  have hdl : (l.drop (psN l)).length = l.length - psN l := List.length_drop
  have hsd := sh_drop h2 (psN l)
  simp only [dpN, tkD, gPl, isF_drop, n_sh, n_pl, n_len, cp, i0, fLen, fPl, oneN, true_and, and_true, L_bse]
  have bnd : (0 : Int) ≤ (psN l : Int) ∧ (psN l : Int) ≤ (l.length : Int) ∧ (l.length : Int) ≤ (l.length : Int) := ⟨by omega, by omega, by omega⟩
  refine br_dec bnd ⟨⟨by omega, by omega, hsd⟩, br_dec bnd ⟨⟨by omega, by omega, hsd⟩, br_intro (fun k => ?_) (fun k1 => br_intro (fun k => ?_) (fun k2 => ⟨⟨by omega, by omega⟩, br_intro (fun k => ?_) (fun k3 => br_dec bnd (br_dec (by omega) (br_b rfl (br_dec (by omega) ?_))))⟩))⟩⟩
  · have e : rqL l = none := by rw [hr]; simp at k; simp [k]
    rw [e]; exact ⟨rfl, rfl, rfl, rfl, rfl, rfl, rfl, rfl⟩
  · have e : rqL l = none := by rw [hr]; simp at k; simp [k]
    rw [e]; exact ⟨rfl, rfl, rfl, rfl, rfl, rfl, rfl, rfl⟩
  · have e : rqL l = none := by rw [hr]; simp at k; simp [k]
    rw [e]; exact ⟨rfl, rfl, rfl, rfl, rfl, rfl, rfl, rfl⟩
  · have e : rqL l = some ⟨y, lenL (l.drop (psN l)), l.drop (psN l)⟩ := by rw [hr]; simp at k1 k2 k3; simp [k1, k2, k3]
    rw [e]; exact ⟨rfl, rfl, rfl, rfl, hdl, rfl, rfl, rfl⟩
theorem Rsp_con (l : List Fl) (h1 : l.length ≤ 16777000) (h2 : ShortF l) : Con Try.prog 11 [.slice (some ⟨0, 0, none⟩) l.length 2] [gRo enF l] (.tuple #[.agg ⟨[.int .i64 (rsZ (rsL l)).st, .slice (some ⟨1, 0, none⟩) (rsZ (rsL l)).f.length 2, .int .i64 (rsZ (rsL l)).k]⟩, .bool (rsL l).isSome]) [gRo enF l, gOwn enF (rsZ (rsL l)).f] := by
  refine con_vc (E := EtRs) mixed (calls_envT tRs_ok) (lok_envT _ _) (M := noM) lm_none (Rsp_vc l _ _ _ _) ?_
  have hm : maxLen = 9223372036854775807 := by unfold maxLen; rfl
  have q0 : (⟨#[]⟩ : ByteArray) = bs [] := rfl
  simp only [ofNat_eq, toNat_cast, Nat.zero_add, Nat.add_zero, Nat.mul_one, List.drop_zero, bCells_len, bCells_drop, bCells_take, bCells_app, bCells_one, bCells_plain, List.length_replicate, List.length_append, List.length_take, List.length_drop, List.take_length, and_true, true_and, and_self, decide_true, List.length_nil, List.length_cons, Nat.sub_zero, dB_mk, dB_ro, List.take_zero, fPl, bs_dd, isF_eq, q0, fTake]
  cases l with
  | nil => exact br_b rfl ⟨rfl, rfl, rfl, rfl, rfl⟩
  | cons f l =>
  have q1 : (⟨#[58, 115, 116, 97, 116, 117, 115]⟩ : ByteArray) = bs sSta := rfl
  obtain ⟨c1, c2, c3, c4⟩ := fGet (f :: l) 0 (by simp)
  simp only [Nat.zero_mul, Nat.zero_add, List.getElem_cons_zero] at c1 c2 c3 c4
  have d1 : dgI (bs f.v) 3 3 = dgV (digL f.v 3 3) := rfl
  have d2 : dgB (bs f.v) 3 3 = (digL f.v 3 3).isSome := rfl
  have hf := h2 f (by simp)
  have hs : ShortF l := fun x hx => h2 x (by simp [hx])
  have hdl : List.drop 2 (gC enF (f :: l)) = gC enF l := rfl
  have htl : List.take (((f :: l).length - 1) * 2) (gC enF l) = gC enF l := List.take_of_length_le (by rw [fLen]; simp)
  have il : IsF ⟨gC enF l, true, .cells true⟩ ((f :: l).length - 1) = True := eq_true (isF_mk _ _ (by simp))
  have hlen : (f :: l).length = l.length + 1 := List.length_cons
  simp only [c1, c2, c3, c4, q1, strEq_bs, L_bse, d1, d2, hdl, htl, il, n_sh, n_pl, n_len, fPl, fLen, true_and, and_true]
  have z : rsL (f :: l) = none → ((rsZ (rsL (f :: l))).st = 0 ∧ (rsZ (rsL (f :: l))).f.length = 0 ∧ (rsZ (rsL (f :: l))).k = 0 ∧ (rsL (f :: l)).isSome = false ∧ gC enF (rsZ (rsL (f :: l))).f = []) := fun h => by rw [h]; exact ⟨rfl, rfl, rfl, rfl, rfl⟩
  have hr : rsL (f :: l) = if f.n = sSta then (match digL f.v 3 3 with
    | none => none
    | some s => if stOk s && (plL l && !decide (lenL l = -2)) then some ⟨s, lenL l, l⟩ else none) else none := rfl
  have so : ∀ s, stOk s = (decide (100 ≤ s) && (decide (s ≤ 599) && !decide (s = 101))) := fun s => rfl
  refine br_nb (by rw [beq_eq_false_iff_ne]; omega) (br_dec (by omega) (br_intro (fun k => z ?_) (fun k1 => br_dec (by omega) ⟨⟨by omega, by omega, by omega, by omega⟩, br_intro (fun k => z ?_) (fun k2 => ?_)⟩)))
  · rw [hr, if_neg (by simpa using k)]
  · have k : digL f.v 3 3 = none := by simpa using k
    rw [hr, k]; simp
  rw [if_pos (by simpa using k1)] at hr
  obtain ⟨m, hm2⟩ : ∃ m, digL f.v 3 3 = some m := by
    cases hd : digL f.v 3 3 with
    | none => rw [hd] at k2; simp at k2
    | some m => exact ⟨m, rfl⟩
  rw [hm2] at hr ⊢
  simp only at hr
  have e : dgV (some m) = (m : Nat) := rfl
  rw [e]
  have bnd : (0 : Int) ≤ 1 ∧ (1 : Int) ≤ ((f :: l).length : Int) ∧ (((f :: l).length : Nat) : Int) ≤ ((f :: l).length : Int) := ⟨by omega, by omega, by omega⟩
  refine br_if (fun k => z ?_) (fun k3 => br_if (fun k => z ?_) (fun k4 => br_intro (fun k => z ?_) (fun k5 => br_dec bnd ⟨⟨by omega, by omega, hs⟩, br_dec bnd ⟨⟨by omega, by omega, hs⟩, br_intro (fun k => z ?_) (fun k6 => br_intro (fun k => z ?_) (fun k7 => br_dec bnd (br_dec (by omega) (br_b (oneN _) (br_dec (by omega) ?_)))))⟩⟩)))
  · rw [hr, so, decide_eq_false (by omega)]; rfl
  · rw [hr, so, show decide (m ≤ 599) = false from decide_eq_false (by omega)]; simp
  · have k : (m : Int) = 101 := by simpa using k
    rw [hr, so, show decide (m = 101) = true from decide_eq_true (by omega)]; simp
  · rw [hr]; simp at k; simp [k]
  · rw [hr]; simp at k; simp [k]
  · have k5 : ¬ (m : Int) = 101 := by simpa using k5
    have hok : stOk m = true := by rw [so, decide_eq_true (by omega), decide_eq_true (by omega), decide_eq_false (by omega)]; rfl
    have e2 : rsL (f :: l) = some ⟨m, lenL l, l⟩ := by rw [hr, hok]; simp at k6 k7; simp [k6, k7]
    rw [e2]
    exact ⟨rfl, by simp [rsZ], rfl, rfl, rfl⟩
theorem eRq_ok : EntOk Try.prog eRq := entC_ok (by
  intro a rows p v news h hp
  split at h <;> simp only [Option.some.injEq, Prod.mk.injEq, reduceCtorEq] at h
  obtain ⟨rfl, rfl, rfl⟩ := h
  obtain ⟨⟨l, rfl, rfl⟩, h1, h2⟩ := hp
  simp only [rqM, rqS, rqA, rqP, rqN, rqK, rqB, rqC, ShR, dF] at h2 ⊢
  exact Rq_con l h1 h2)
theorem eRs_ok : EntOk Try.prog eRs := entC_ok (by
  intro a rows p v news h hp
  split at h <;> simp only [Option.some.injEq, Prod.mk.injEq, reduceCtorEq] at h
  obtain ⟨rfl, rfl, rfl⟩ := h
  obtain ⟨⟨l, rfl, rfl⟩, h1, h2⟩ := hp
  simp only [rsS, rsN, rsK, rsB, rsC, ShR, dF] at h2 ⊢
  exact Rsp_con l h1 h2)
end Go.Proofs.Yteodlmfnkjdhhaa.tk
