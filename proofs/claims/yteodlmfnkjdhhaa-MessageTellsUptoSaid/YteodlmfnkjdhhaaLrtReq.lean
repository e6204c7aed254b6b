/- The document's own requests and responses. -/
import Derived.Test.YteodlmfnkjdhhaaSz9
import Derived.Test.YteodlmfnkjdhhaaRows
import Derived.Test.YteodlmfnkjdhhaaLrtMsg
import Derived.Test.YteodlmfnkjdhhaaLmsReq
set_option linter.unusedSimpArgs false
set_option linter.unusedVariables false
namespace Go.Proofs.Yteodlmfnkjdhhaa.tk
open Go Go.Ev Go.Sy Go.RowKit Go.Proofs.Yteodlmfnkjdhhaa.gl
noncomputable def tRr : List EntM := [eRba, eRvl, eRln, eRpl, eRtk]
noncomputable abbrev EtRr : Env := envT Try.prog tRr
noncomputable def tRp : List EntM := [eRba, eRnum, eRln, eRpl]
noncomputable abbrev EtRp : Env := envT Try.prog tRp
def pRr : List Nat := [0, 1, 0, 1, 1, 1, 1, 1]
def snC (l : List Fl) : List Value := [.bool (nmIn sMet l), .bool (nmIn sSch l), .bool (nmIn sAut l), .bool (nmIn sPat l)]
def slRr0 (l : List Fl) : List (Nat × Value) := [(0, .slice (some ⟨0, 0, none⟩) l.length 2), (2, .pointer (some ⟨1, 0, none⟩)), (4, .int .i64 (psN l : Nat)), (6, .pointer (some ⟨2, 0, none⟩)), (7, .pointer (some ⟨3, 0, none⟩))]
def slRr (l : List Fl) (s : StR) : List (Nat × Value) := slRr0 l ++ [(8, .int .i64 (s.i : Nat))]
def rlRr (l : List Fl) (s : StR) : List (Nat × Row) := [(0, gRo enF l), (1, ⟨zRq, false, .cells false⟩), (2, ⟨rCells s.r, false, .cells false⟩), (3, ⟨snC (l.take s.i), false, .cells false⟩)]
def wsRr (l : List Fl) : List (Gate RqP) := [⟨.exit 0, fun r => rqG [] rq0 (l.take (psN l)) = some r, fun _ => slRr0 l, fun r => rlRr l ⟨r, psN l⟩, 4⟩, ⟨.ret, fun _ => rqG [] rq0 (l.take (psN l)) = none, fun _ => [(2, .pointer (some ⟨1, 0, none⟩)), (3, .bool false)], fun _ => [(0, gRo enF l), (1, ⟨zRq, false, .cells false⟩)], 2⟩]
def specRr : Sy.Spec := specOf 1 4 150 (fun l : List Fl => l.length ≤ 16777000 ∧ ShortF l) (fun l => slRr l ⟨rq0, 0⟩) (fun l => rlRr l ⟨rq0, 0⟩) wsRr
def mRr := mOf [(15, pRr, specRr)]
noncomputable def eRr : EntM := entC 15 fun a r => match a, r with
  | [.slice (some ⟨0, 0, none⟩) n 2], [r0] => some (IsF r0 n ∧ n ≤ 16777000 ∧ ShR r0, .tuple #[.agg ⟨[.string (rqM r0), .string (rqS r0), .string (rqA r0), .string (rqP r0), .slice (some ⟨1, 0, none⟩) (rqN r0) 2, .int .i64 (rqK r0)]⟩, .bool (rqB r0)], [⟨rqC r0, false, .cells true⟩])
  | _, _ => none
noncomputable def eRp : EntM := entC 16 fun a r => match a, r with
  | [.slice (some ⟨0, 0, none⟩) n 2], [r0] => some (IsF r0 n ∧ n ≤ 16777000 ∧ ShR r0, .tuple #[.agg ⟨[.int .i64 (rsS r0), .slice (some ⟨1, 0, none⟩) (rsN r0) 2, .int .i64 (rsK r0)]⟩, .bool (rsB r0)], [⟨rsC r0, false, .cells true⟩])
  | _, _ => none
theorem Rr_round (l : List Fl) (s : StR) (Inv : StR → Prop) (m : StR → Nat) : mev EtRr noM 60 15 (0 :: pRr) false (codeOf Try.prog 15 (0 :: pRr)) ⟨mkOv (slRr l s), 150, []⟩ none ⟨mkR (rlRr l s), 4⟩ (roundK 1 4 150 Inv m (slRr l) (rlRr l) (wsRr l) s) =
  (br (decide ((↑s.2 : Int) < (↑(psN l) : Int)))
   (br (decide ((0 : Int) ≤ (↑s.2 : Int) ∧ (↑s.2 : Int) < (↑(List.length l) : Int)))
    ((Eq (α := Option Value) ((gC enF l)[(0 : Nat) + Int.toNat (↑s.2 : Int) * (2 : Nat) + (0 : Nat)]?) (some (Value.string (cellS (gC enF l) ((0 : Nat) + Int.toNat (↑s.2 : Int) * (2 : Nat) + (0 : Nat)))))) ∧
    (br (strEq (cellS (gC enF l) ((0 : Nat) + Int.toNat (↑s.2 : Int) * (2 : Nat) + (0 : Nat))) (ByteArray.mk #[(58 : UInt8), (109 : UInt8), (101 : UInt8), (116 : UInt8), (104 : UInt8), (111 : UInt8), (100 : UInt8)]))
     (br (nmIn [(58 : UInt8), (109 : UInt8), (101 : UInt8), (116 : UInt8), (104 : UInt8), (111 : UInt8), (100 : UInt8)] (List.take s.2 l))
      (∃ y : RqP, ((Eq (α := Option RqP) (rqG [] rq0 (List.take (psN l) l)) (none)) ∧
      (((0 : Nat) = (0 : Nat)) ∧
      ((false = false) ∧
      ((Eq (α := List Value) (gC enF l) (gC enF l)) ∧
      ((Plain (gC enF l)) ∧
      ((ByteArray.mk #[] = ByteArray.mk #[]) ∧
      ((ByteArray.mk #[] = ByteArray.mk #[]) ∧
      ((ByteArray.mk #[] = ByteArray.mk #[]) ∧
      ((ByteArray.mk #[] = ByteArray.mk #[]) ∧
      (((0 : Int) = (0 : Int)) ∧
      True)))))))))))
      (br (decide ((0 : Int) ≤ (↑s.2 : Int) ∧ (↑s.2 : Int) < (↑(List.length l) : Int)))
       ((Eq (α := Option Value) ((gC enF l)[(0 : Nat) + Int.toNat (↑s.2 : Int) * (2 : Nat) + (1 : Nat)]?) (some (Value.string (cellS (gC enF l) ((0 : Nat) + Int.toNat (↑s.2 : Int) * (2 : Nat) + (1 : Nat)))))) ∧
       ((((True ∧ True) ∧ (True ∧ (True ∧ List.length (L (cellS (gC enF l) ((0 : Nat) + Int.toNat (↑s.2 : Int) * (2 : Nat) + (1 : Nat)))) ≤ (9223372036854775807 : Nat))))) ∧
       (br (!valS (cellS (gC enF l) ((0 : Nat) + Int.toNat (↑s.2 : Int) * (2 : Nat) + (1 : Nat))))
        (∃ y : RqP, ((Eq (α := Option RqP) (rqG [] rq0 (List.take (psN l) l)) (none)) ∧
        (((0 : Nat) = (0 : Nat)) ∧
        ((false = false) ∧
        ((Eq (α := List Value) (gC enF l) (gC enF l)) ∧
        ((Plain (gC enF l)) ∧
        ((ByteArray.mk #[] = ByteArray.mk #[]) ∧
        ((ByteArray.mk #[] = ByteArray.mk #[]) ∧
        ((ByteArray.mk #[] = ByteArray.mk #[]) ∧
        ((ByteArray.mk #[] = ByteArray.mk #[]) ∧
        (((0 : Int) = (0 : Int)) ∧
        True)))))))))))
        (br (decide ((0 : Int) ≤ (↑s.2 : Int) ∧ (↑s.2 : Int) < (↑(List.length l) : Int)))
         ((Eq (α := Option Value) ((gC enF l)[(0 : Nat) + Int.toNat (↑s.2 : Int) * (2 : Nat) + (1 : Nat)]?) (some (Value.string (cellS (gC enF l) ((0 : Nat) + Int.toNat (↑s.2 : Int) * (2 : Nat) + (1 : Nat)))))) ∧
         (∃ j : StR, ((Inv j) ∧
         ((m j < m s) ∧
         (((0 : Nat) = (0 : Nat)) ∧
         ((List.length l = List.length l) ∧
         (((0 : Nat) = (0 : Nat)) ∧
         (((↑(psN l) : Int) = (↑(psN l) : Int)) ∧
         (((0 : Nat) = (0 : Nat)) ∧
         (((0 : Nat) = (0 : Nat)) ∧
         (((↑j.2 : Int) = IntKind.wrap IntKind.i64 ((↑s.2 : Int) + (1 : Int))) ∧
         ((Eq (α := List Value) (gC enF l) (gC enF l)) ∧
         ((Plain (gC enF l)) ∧
         ((ByteArray.mk #[] = ByteArray.mk #[]) ∧
         ((ByteArray.mk #[] = ByteArray.mk #[]) ∧
         ((ByteArray.mk #[] = ByteArray.mk #[]) ∧
         ((ByteArray.mk #[] = ByteArray.mk #[]) ∧
         (((0 : Int) = (0 : Int)) ∧
         ((bs j.1.1 = cellS (gC enF l) ((0 : Nat) + Int.toNat (↑s.2 : Int) * (2 : Nat) + (1 : Nat))) ∧
         ((bs j.1.2 = bs s.1.2) ∧
         ((bs j.1.3 = bs s.1.3) ∧
         ((bs j.1.4 = bs s.1.4) ∧
         (((0 : Int) = (0 : Int)) ∧
         ((nmIn [(58 : UInt8), (109 : UInt8), (101 : UInt8), (116 : UInt8), (104 : UInt8), (111 : UInt8), (100 : UInt8)] (List.take j.2 l) = true) ∧
         ((nmIn [(58 : UInt8), (115 : UInt8), (99 : UInt8), (104 : UInt8), (101 : UInt8), (109 : UInt8), (101 : UInt8)] (List.take j.2 l) = nmIn [(58 : UInt8), (115 : UInt8), (99 : UInt8), (104 : UInt8), (101 : UInt8), (109 : UInt8), (101 : UInt8)] (List.take s.2 l)) ∧
         ((nmIn [(58 : UInt8), (97 : UInt8), (117 : UInt8), (116 : UInt8), (104 : UInt8), (111 : UInt8), (114 : UInt8), (105 : UInt8), (116 : UInt8), (121 : UInt8)] (List.take j.2 l) = nmIn [(58 : UInt8), (97 : UInt8), (117 : UInt8), (116 : UInt8), (104 : UInt8), (111 : UInt8), (114 : UInt8), (105 : UInt8), (116 : UInt8), (121 : UInt8)] (List.take s.2 l)) ∧
         ((nmIn [(58 : UInt8), (112 : UInt8), (97 : UInt8), (116 : UInt8), (104 : UInt8)] (List.take j.2 l) = nmIn [(58 : UInt8), (112 : UInt8), (97 : UInt8), (116 : UInt8), (104 : UInt8)] (List.take s.2 l)) ∧
         True)))))))))))))))))))))))))))
         False))))
       False))
     (br (strEq (cellS (gC enF l) ((0 : Nat) + Int.toNat (↑s.2 : Int) * (2 : Nat) + (0 : Nat))) (ByteArray.mk #[(58 : UInt8), (115 : UInt8), (99 : UInt8), (104 : UInt8), (101 : UInt8), (109 : UInt8), (101 : UInt8)]))
      (br (nmIn [(58 : UInt8), (115 : UInt8), (99 : UInt8), (104 : UInt8), (101 : UInt8), (109 : UInt8), (101 : UInt8)] (List.take s.2 l))
       (∃ y : RqP, ((Eq (α := Option RqP) (rqG [] rq0 (List.take (psN l) l)) (none)) ∧
       (((0 : Nat) = (0 : Nat)) ∧
       ((false = false) ∧
       ((Eq (α := List Value) (gC enF l) (gC enF l)) ∧
       ((Plain (gC enF l)) ∧
       ((ByteArray.mk #[] = ByteArray.mk #[]) ∧
       ((ByteArray.mk #[] = ByteArray.mk #[]) ∧
       ((ByteArray.mk #[] = ByteArray.mk #[]) ∧
       ((ByteArray.mk #[] = ByteArray.mk #[]) ∧
       (((0 : Int) = (0 : Int)) ∧
       True)))))))))))
       (br (decide ((0 : Int) ≤ (↑s.2 : Int) ∧ (↑s.2 : Int) < (↑(List.length l) : Int)))
        ((Eq (α := Option Value) ((gC enF l)[(0 : Nat) + Int.toNat (↑s.2 : Int) * (2 : Nat) + (1 : Nat)]?) (some (Value.string (cellS (gC enF l) ((0 : Nat) + Int.toNat (↑s.2 : Int) * (2 : Nat) + (1 : Nat)))))) ∧
        ((((True ∧ True) ∧ (True ∧ (True ∧ List.length (L (cellS (gC enF l) ((0 : Nat) + Int.toNat (↑s.2 : Int) * (2 : Nat) + (1 : Nat)))) ≤ (9223372036854775807 : Nat))))) ∧
        (br (!valS (cellS (gC enF l) ((0 : Nat) + Int.toNat (↑s.2 : Int) * (2 : Nat) + (1 : Nat))))
         (∃ y : RqP, ((Eq (α := Option RqP) (rqG [] rq0 (List.take (psN l) l)) (none)) ∧
         (((0 : Nat) = (0 : Nat)) ∧
         ((false = false) ∧
         ((Eq (α := List Value) (gC enF l) (gC enF l)) ∧
         ((Plain (gC enF l)) ∧
         ((ByteArray.mk #[] = ByteArray.mk #[]) ∧
         ((ByteArray.mk #[] = ByteArray.mk #[]) ∧
         ((ByteArray.mk #[] = ByteArray.mk #[]) ∧
         ((ByteArray.mk #[] = ByteArray.mk #[]) ∧
         (((0 : Int) = (0 : Int)) ∧
         True)))))))))))
         (br (decide ((0 : Int) ≤ (↑s.2 : Int) ∧ (↑s.2 : Int) < (↑(List.length l) : Int)))
          ((Eq (α := Option Value) ((gC enF l)[(0 : Nat) + Int.toNat (↑s.2 : Int) * (2 : Nat) + (1 : Nat)]?) (some (Value.string (cellS (gC enF l) ((0 : Nat) + Int.toNat (↑s.2 : Int) * (2 : Nat) + (1 : Nat)))))) ∧
          (∃ j : StR, ((Inv j) ∧
          ((m j < m s) ∧
          (((0 : Nat) = (0 : Nat)) ∧
          ((List.length l = List.length l) ∧
          (((0 : Nat) = (0 : Nat)) ∧
          (((↑(psN l) : Int) = (↑(psN l) : Int)) ∧
          (((0 : Nat) = (0 : Nat)) ∧
          (((0 : Nat) = (0 : Nat)) ∧
          (((↑j.2 : Int) = IntKind.wrap IntKind.i64 ((↑s.2 : Int) + (1 : Int))) ∧
          ((Eq (α := List Value) (gC enF l) (gC enF l)) ∧
          ((Plain (gC enF l)) ∧
          ((ByteArray.mk #[] = ByteArray.mk #[]) ∧
          ((ByteArray.mk #[] = ByteArray.mk #[]) ∧
          ((ByteArray.mk #[] = ByteArray.mk #[]) ∧
          ((ByteArray.mk #[] = ByteArray.mk #[]) ∧
          (((0 : Int) = (0 : Int)) ∧
          ((bs j.1.1 = bs s.1.1) ∧
          ((bs j.1.2 = cellS (gC enF l) ((0 : Nat) + Int.toNat (↑s.2 : Int) * (2 : Nat) + (1 : Nat))) ∧
          ((bs j.1.3 = bs s.1.3) ∧
          ((bs j.1.4 = bs s.1.4) ∧
          (((0 : Int) = (0 : Int)) ∧
          ((nmIn [(58 : UInt8), (109 : UInt8), (101 : UInt8), (116 : UInt8), (104 : UInt8), (111 : UInt8), (100 : UInt8)] (List.take j.2 l) = nmIn [(58 : UInt8), (109 : UInt8), (101 : UInt8), (116 : UInt8), (104 : UInt8), (111 : UInt8), (100 : UInt8)] (List.take s.2 l)) ∧
          ((nmIn [(58 : UInt8), (115 : UInt8), (99 : UInt8), (104 : UInt8), (101 : UInt8), (109 : UInt8), (101 : UInt8)] (List.take j.2 l) = true) ∧
          ((nmIn [(58 : UInt8), (97 : UInt8), (117 : UInt8), (116 : UInt8), (104 : UInt8), (111 : UInt8), (114 : UInt8), (105 : UInt8), (116 : UInt8), (121 : UInt8)] (List.take j.2 l) = nmIn [(58 : UInt8), (97 : UInt8), (117 : UInt8), (116 : UInt8), (104 : UInt8), (111 : UInt8), (114 : UInt8), (105 : UInt8), (116 : UInt8), (121 : UInt8)] (List.take s.2 l)) ∧
          ((nmIn [(58 : UInt8), (112 : UInt8), (97 : UInt8), (116 : UInt8), (104 : UInt8)] (List.take j.2 l) = nmIn [(58 : UInt8), (112 : UInt8), (97 : UInt8), (116 : UInt8), (104 : UInt8)] (List.take s.2 l)) ∧
          True)))))))))))))))))))))))))))
          False))))
        False))
      (br (strEq (cellS (gC enF l) ((0 : Nat) + Int.toNat (↑s.2 : Int) * (2 : Nat) + (0 : Nat))) (ByteArray.mk #[(58 : UInt8), (97 : UInt8), (117 : UInt8), (116 : UInt8), (104 : UInt8), (111 : UInt8), (114 : UInt8), (105 : UInt8), (116 : UInt8), (121 : UInt8)]))
       (br (nmIn [(58 : UInt8), (97 : UInt8), (117 : UInt8), (116 : UInt8), (104 : UInt8), (111 : UInt8), (114 : UInt8), (105 : UInt8), (116 : UInt8), (121 : UInt8)] (List.take s.2 l))
        (∃ y : RqP, ((Eq (α := Option RqP) (rqG [] rq0 (List.take (psN l) l)) (none)) ∧
        (((0 : Nat) = (0 : Nat)) ∧
        ((false = false) ∧
        ((Eq (α := List Value) (gC enF l) (gC enF l)) ∧
        ((Plain (gC enF l)) ∧
        ((ByteArray.mk #[] = ByteArray.mk #[]) ∧
        ((ByteArray.mk #[] = ByteArray.mk #[]) ∧
        ((ByteArray.mk #[] = ByteArray.mk #[]) ∧
        ((ByteArray.mk #[] = ByteArray.mk #[]) ∧
        (((0 : Int) = (0 : Int)) ∧
        True)))))))))))
        (br (decide ((0 : Int) ≤ (↑s.2 : Int) ∧ (↑s.2 : Int) < (↑(List.length l) : Int)))
         ((Eq (α := Option Value) ((gC enF l)[(0 : Nat) + Int.toNat (↑s.2 : Int) * (2 : Nat) + (1 : Nat)]?) (some (Value.string (cellS (gC enF l) ((0 : Nat) + Int.toNat (↑s.2 : Int) * (2 : Nat) + (1 : Nat)))))) ∧
         ((((True ∧ True) ∧ (True ∧ (True ∧ List.length (L (cellS (gC enF l) ((0 : Nat) + Int.toNat (↑s.2 : Int) * (2 : Nat) + (1 : Nat)))) ≤ (9223372036854775807 : Nat))))) ∧
         (br (!valS (cellS (gC enF l) ((0 : Nat) + Int.toNat (↑s.2 : Int) * (2 : Nat) + (1 : Nat))))
          (∃ y : RqP, ((Eq (α := Option RqP) (rqG [] rq0 (List.take (psN l) l)) (none)) ∧
          (((0 : Nat) = (0 : Nat)) ∧
          ((false = false) ∧
          ((Eq (α := List Value) (gC enF l) (gC enF l)) ∧
          ((Plain (gC enF l)) ∧
          ((ByteArray.mk #[] = ByteArray.mk #[]) ∧
          ((ByteArray.mk #[] = ByteArray.mk #[]) ∧
          ((ByteArray.mk #[] = ByteArray.mk #[]) ∧
          ((ByteArray.mk #[] = ByteArray.mk #[]) ∧
          (((0 : Int) = (0 : Int)) ∧
          True)))))))))))
          (br (decide ((0 : Int) ≤ (↑s.2 : Int) ∧ (↑s.2 : Int) < (↑(List.length l) : Int)))
           ((Eq (α := Option Value) ((gC enF l)[(0 : Nat) + Int.toNat (↑s.2 : Int) * (2 : Nat) + (1 : Nat)]?) (some (Value.string (cellS (gC enF l) ((0 : Nat) + Int.toNat (↑s.2 : Int) * (2 : Nat) + (1 : Nat)))))) ∧
           (∃ j : StR, ((Inv j) ∧
           ((m j < m s) ∧
           (((0 : Nat) = (0 : Nat)) ∧
           ((List.length l = List.length l) ∧
           (((0 : Nat) = (0 : Nat)) ∧
           (((↑(psN l) : Int) = (↑(psN l) : Int)) ∧
           (((0 : Nat) = (0 : Nat)) ∧
           (((0 : Nat) = (0 : Nat)) ∧
           (((↑j.2 : Int) = IntKind.wrap IntKind.i64 ((↑s.2 : Int) + (1 : Int))) ∧
           ((Eq (α := List Value) (gC enF l) (gC enF l)) ∧
           ((Plain (gC enF l)) ∧
           ((ByteArray.mk #[] = ByteArray.mk #[]) ∧
           ((ByteArray.mk #[] = ByteArray.mk #[]) ∧
           ((ByteArray.mk #[] = ByteArray.mk #[]) ∧
           ((ByteArray.mk #[] = ByteArray.mk #[]) ∧
           (((0 : Int) = (0 : Int)) ∧
           ((bs j.1.1 = bs s.1.1) ∧
           ((bs j.1.2 = bs s.1.2) ∧
           ((bs j.1.3 = cellS (gC enF l) ((0 : Nat) + Int.toNat (↑s.2 : Int) * (2 : Nat) + (1 : Nat))) ∧
           ((bs j.1.4 = bs s.1.4) ∧
           (((0 : Int) = (0 : Int)) ∧
           ((nmIn [(58 : UInt8), (109 : UInt8), (101 : UInt8), (116 : UInt8), (104 : UInt8), (111 : UInt8), (100 : UInt8)] (List.take j.2 l) = nmIn [(58 : UInt8), (109 : UInt8), (101 : UInt8), (116 : UInt8), (104 : UInt8), (111 : UInt8), (100 : UInt8)] (List.take s.2 l)) ∧
           ((nmIn [(58 : UInt8), (115 : UInt8), (99 : UInt8), (104 : UInt8), (101 : UInt8), (109 : UInt8), (101 : UInt8)] (List.take j.2 l) = nmIn [(58 : UInt8), (115 : UInt8), (99 : UInt8), (104 : UInt8), (101 : UInt8), (109 : UInt8), (101 : UInt8)] (List.take s.2 l)) ∧
           ((nmIn [(58 : UInt8), (97 : UInt8), (117 : UInt8), (116 : UInt8), (104 : UInt8), (111 : UInt8), (114 : UInt8), (105 : UInt8), (116 : UInt8), (121 : UInt8)] (List.take j.2 l) = true) ∧
           ((nmIn [(58 : UInt8), (112 : UInt8), (97 : UInt8), (116 : UInt8), (104 : UInt8)] (List.take j.2 l) = nmIn [(58 : UInt8), (112 : UInt8), (97 : UInt8), (116 : UInt8), (104 : UInt8)] (List.take s.2 l)) ∧
           True)))))))))))))))))))))))))))
           False))))
         False))
       (br (strEq (cellS (gC enF l) ((0 : Nat) + Int.toNat (↑s.2 : Int) * (2 : Nat) + (0 : Nat))) (ByteArray.mk #[(58 : UInt8), (112 : UInt8), (97 : UInt8), (116 : UInt8), (104 : UInt8)]))
        (br (nmIn [(58 : UInt8), (112 : UInt8), (97 : UInt8), (116 : UInt8), (104 : UInt8)] (List.take s.2 l))
         (∃ y : RqP, ((Eq (α := Option RqP) (rqG [] rq0 (List.take (psN l) l)) (none)) ∧
         (((0 : Nat) = (0 : Nat)) ∧
         ((false = false) ∧
         ((Eq (α := List Value) (gC enF l) (gC enF l)) ∧
         ((Plain (gC enF l)) ∧
         ((ByteArray.mk #[] = ByteArray.mk #[]) ∧
         ((ByteArray.mk #[] = ByteArray.mk #[]) ∧
         ((ByteArray.mk #[] = ByteArray.mk #[]) ∧
         ((ByteArray.mk #[] = ByteArray.mk #[]) ∧
         (((0 : Int) = (0 : Int)) ∧
         True)))))))))))
         (br (decide ((0 : Int) ≤ (↑s.2 : Int) ∧ (↑s.2 : Int) < (↑(List.length l) : Int)))
          ((Eq (α := Option Value) ((gC enF l)[(0 : Nat) + Int.toNat (↑s.2 : Int) * (2 : Nat) + (1 : Nat)]?) (some (Value.string (cellS (gC enF l) ((0 : Nat) + Int.toNat (↑s.2 : Int) * (2 : Nat) + (1 : Nat)))))) ∧
          ((((True ∧ True) ∧ (True ∧ (True ∧ List.length (L (cellS (gC enF l) ((0 : Nat) + Int.toNat (↑s.2 : Int) * (2 : Nat) + (1 : Nat)))) ≤ (9223372036854775807 : Nat))))) ∧
          (br (!valS (cellS (gC enF l) ((0 : Nat) + Int.toNat (↑s.2 : Int) * (2 : Nat) + (1 : Nat))))
           (∃ y : RqP, ((Eq (α := Option RqP) (rqG [] rq0 (List.take (psN l) l)) (none)) ∧
           (((0 : Nat) = (0 : Nat)) ∧
           ((false = false) ∧
           ((Eq (α := List Value) (gC enF l) (gC enF l)) ∧
           ((Plain (gC enF l)) ∧
           ((ByteArray.mk #[] = ByteArray.mk #[]) ∧
           ((ByteArray.mk #[] = ByteArray.mk #[]) ∧
           ((ByteArray.mk #[] = ByteArray.mk #[]) ∧
           ((ByteArray.mk #[] = ByteArray.mk #[]) ∧
           (((0 : Int) = (0 : Int)) ∧
           True)))))))))))
           (br (decide ((0 : Int) ≤ (↑s.2 : Int) ∧ (↑s.2 : Int) < (↑(List.length l) : Int)))
            ((Eq (α := Option Value) ((gC enF l)[(0 : Nat) + Int.toNat (↑s.2 : Int) * (2 : Nat) + (1 : Nat)]?) (some (Value.string (cellS (gC enF l) ((0 : Nat) + Int.toNat (↑s.2 : Int) * (2 : Nat) + (1 : Nat)))))) ∧
            (∃ j : StR, ((Inv j) ∧
            ((m j < m s) ∧
            (((0 : Nat) = (0 : Nat)) ∧
            ((List.length l = List.length l) ∧
            (((0 : Nat) = (0 : Nat)) ∧
            (((↑(psN l) : Int) = (↑(psN l) : Int)) ∧
            (((0 : Nat) = (0 : Nat)) ∧
            (((0 : Nat) = (0 : Nat)) ∧
            (((↑j.2 : Int) = IntKind.wrap IntKind.i64 ((↑s.2 : Int) + (1 : Int))) ∧
            ((Eq (α := List Value) (gC enF l) (gC enF l)) ∧
            ((Plain (gC enF l)) ∧
            ((ByteArray.mk #[] = ByteArray.mk #[]) ∧
            ((ByteArray.mk #[] = ByteArray.mk #[]) ∧
            ((ByteArray.mk #[] = ByteArray.mk #[]) ∧
            ((ByteArray.mk #[] = ByteArray.mk #[]) ∧
            (((0 : Int) = (0 : Int)) ∧
            ((bs j.1.1 = bs s.1.1) ∧
            ((bs j.1.2 = bs s.1.2) ∧
            ((bs j.1.3 = bs s.1.3) ∧
            ((bs j.1.4 = cellS (gC enF l) ((0 : Nat) + Int.toNat (↑s.2 : Int) * (2 : Nat) + (1 : Nat))) ∧
            (((0 : Int) = (0 : Int)) ∧
            ((nmIn [(58 : UInt8), (109 : UInt8), (101 : UInt8), (116 : UInt8), (104 : UInt8), (111 : UInt8), (100 : UInt8)] (List.take j.2 l) = nmIn [(58 : UInt8), (109 : UInt8), (101 : UInt8), (116 : UInt8), (104 : UInt8), (111 : UInt8), (100 : UInt8)] (List.take s.2 l)) ∧
            ((nmIn [(58 : UInt8), (115 : UInt8), (99 : UInt8), (104 : UInt8), (101 : UInt8), (109 : UInt8), (101 : UInt8)] (List.take j.2 l) = nmIn [(58 : UInt8), (115 : UInt8), (99 : UInt8), (104 : UInt8), (101 : UInt8), (109 : UInt8), (101 : UInt8)] (List.take s.2 l)) ∧
            ((nmIn [(58 : UInt8), (97 : UInt8), (117 : UInt8), (116 : UInt8), (104 : UInt8), (111 : UInt8), (114 : UInt8), (105 : UInt8), (116 : UInt8), (121 : UInt8)] (List.take j.2 l) = nmIn [(58 : UInt8), (97 : UInt8), (117 : UInt8), (116 : UInt8), (104 : UInt8), (111 : UInt8), (114 : UInt8), (105 : UInt8), (116 : UInt8), (121 : UInt8)] (List.take s.2 l)) ∧
            ((nmIn [(58 : UInt8), (112 : UInt8), (97 : UInt8), (116 : UInt8), (104 : UInt8)] (List.take j.2 l) = true) ∧
            True)))))))))))))))))))))))))))
            False))))
          False))
        (∃ y : RqP, ((Eq (α := Option RqP) (rqG [] rq0 (List.take (psN l) l)) (none)) ∧
        (((0 : Nat) = (0 : Nat)) ∧
        ((false = false) ∧
        ((Eq (α := List Value) (gC enF l) (gC enF l)) ∧
        ((Plain (gC enF l)) ∧
        ((ByteArray.mk #[] = ByteArray.mk #[]) ∧
        ((ByteArray.mk #[] = ByteArray.mk #[]) ∧
        ((ByteArray.mk #[] = ByteArray.mk #[]) ∧
        ((ByteArray.mk #[] = ByteArray.mk #[]) ∧
        (((0 : Int) = (0 : Int)) ∧
        True))))))))))))))))
    False)
   (∃ y : RqP, ((Eq (α := Option RqP) (rqG [] rq0 (List.take (psN l) l)) (some y)) ∧
   (((0 : Nat) = (0 : Nat)) ∧
   ((List.length l = List.length l) ∧
   (((0 : Nat) = (0 : Nat)) ∧
   (((↑(psN l) : Int) = (↑(psN l) : Int)) ∧
   (((0 : Nat) = (0 : Nat)) ∧
   (((0 : Nat) = (0 : Nat)) ∧
   ((Eq (α := List Value) (gC enF l) (gC enF l)) ∧
   ((Plain (gC enF l)) ∧
   ((ByteArray.mk #[] = ByteArray.mk #[]) ∧
   ((ByteArray.mk #[] = ByteArray.mk #[]) ∧
   ((ByteArray.mk #[] = ByteArray.mk #[]) ∧
   ((ByteArray.mk #[] = ByteArray.mk #[]) ∧
   (((0 : Int) = (0 : Int)) ∧
   ((bs y.1 = bs s.1.1) ∧
   ((bs y.2 = bs s.1.2) ∧
   ((bs y.3 = bs s.1.3) ∧
   ((bs y.4 = bs s.1.4) ∧
   (((0 : Int) = (0 : Int)) ∧
   ((nmIn [(58 : UInt8), (109 : UInt8), (101 : UInt8), (116 : UInt8), (104 : UInt8), (111 : UInt8), (100 : UInt8)] (List.take (psN l) l) = nmIn [(58 : UInt8), (109 : UInt8), (101 : UInt8), (116 : UInt8), (104 : UInt8), (111 : UInt8), (100 : UInt8)] (List.take s.2 l)) ∧
   ((nmIn [(58 : UInt8), (115 : UInt8), (99 : UInt8), (104 : UInt8), (101 : UInt8), (109 : UInt8), (101 : UInt8)] (List.take (psN l) l) = nmIn [(58 : UInt8), (115 : UInt8), (99 : UInt8), (104 : UInt8), (101 : UInt8), (109 : UInt8), (101 : UInt8)] (List.take s.2 l)) ∧
   ((nmIn [(58 : UInt8), (97 : UInt8), (117 : UInt8), (116 : UInt8), (104 : UInt8), (111 : UInt8), (114 : UInt8), (105 : UInt8), (116 : UInt8), (121 : UInt8)] (List.take (psN l) l) = nmIn [(58 : UInt8), (97 : UInt8), (117 : UInt8), (116 : UInt8), (104 : UInt8), (111 : UInt8), (114 : UInt8), (105 : UInt8), (116 : UInt8), (121 : UInt8)] (List.take s.2 l)) ∧
   ((nmIn [(58 : UInt8), (112 : UInt8), (97 : UInt8), (116 : UInt8), (104 : UInt8)] (List.take (psN l) l) = nmIn [(58 : UInt8), (112 : UInt8), (97 : UInt8), (116 : UInt8), (104 : UInt8)] (List.take s.2 l)) ∧
   True))))))))))))))))))))))))) := by kernel_rfl
theorem Rr_vc (l o : List Fl) (r : RqP) (k : Int) (b : Bool) : mcall EtRr mRr 60 15 [.slice (some ⟨0, 0, none⟩) l.length 2] ⟨mkR (nums 0 [gRo enF l]), 1⟩ (retIs 1 (.tuple #[.agg ⟨[.string (bs r.m), .string (bs r.s), .string (bs r.a), .string (bs r.p), .slice (some ⟨1, 0, none⟩) o.length 2, .int .i64 k]⟩, .bool b]) [gRo enF l, gOwn enF o]) =
  ((((((0 : Nat) + List.length l * (2 : Nat) ≤ List.length (gC enF l) ∧ Plain (List.take (List.length l * (2 : Nat)) (List.drop (0 : Nat) (gC enF l)))) ∧ True) ∧ ((True ∧ True) ∧ (True ∧ (IsF (Row.mk (List.take (List.length l * (2 : Nat)) (List.drop (0 : Nat) (gC enF l))) true (Ob.cells true)) (List.length l) ∧ List.length l ≤ (9223372036854775807 : Nat)))))) ∧
  (br (!baR (Row.mk (List.take (List.length l * (2 : Nat)) (List.drop (0 : Nat) (gC enF l))) true (Ob.cells true)))
   ((bs r.1 = ByteArray.mk #[]) ∧
   ((bs r.2 = ByteArray.mk #[]) ∧
   ((bs r.3 = ByteArray.mk #[]) ∧
   ((bs r.4 = ByteArray.mk #[]) ∧
   ((List.length o = (0 : Nat)) ∧
   ((k = (0 : Int)) ∧
   ((b = false) ∧
   ((Eq (α := List Value) (gC enF l) (gC enF l)) ∧
   ((Plain (gC enF l)) ∧
   ((Eq (α := List Value) (gC enF o) ([])) ∧
   True))))))))))
   (∃ g : List Fl, ((List.length g ≤ (16777000 : Nat) ∧ ShortF g) ∧
   (((0 : Nat) = (0 : Nat)) ∧
   ((List.length g = List.length l) ∧
   (((0 : Nat) = (0 : Nat)) ∧
   (((↑(psN g) : Int) = psR (Row.mk (List.take (List.length l * (2 : Nat)) (List.drop (0 : Nat) (gC enF l))) true (Ob.cells true))) ∧
   (((0 : Nat) = (0 : Nat)) ∧
   (((0 : Nat) = (0 : Nat)) ∧
   (((0 : Int) = (0 : Int)) ∧
   ((Eq (α := List Value) (gC enF g) (gC enF l)) ∧
   ((Plain (gC enF g)) ∧
   ((ByteArray.mk #[] = ByteArray.mk #[]) ∧
   ((ByteArray.mk #[] = ByteArray.mk #[]) ∧
   ((ByteArray.mk #[] = ByteArray.mk #[]) ∧
   ((ByteArray.mk #[] = ByteArray.mk #[]) ∧
   (((0 : Int) = (0 : Int)) ∧
   ((bs (RqP.m (StR.r (StR.mk rq0 (0 : Nat)))) = ByteArray.mk #[]) ∧
   ((bs (RqP.s (StR.r (StR.mk rq0 (0 : Nat)))) = ByteArray.mk #[]) ∧
   ((bs (RqP.a (StR.r (StR.mk rq0 (0 : Nat)))) = ByteArray.mk #[]) ∧
   ((bs (RqP.p (StR.r (StR.mk rq0 (0 : Nat)))) = ByteArray.mk #[]) ∧
   (((0 : Int) = (0 : Int)) ∧
   ((nmIn [(58 : UInt8), (109 : UInt8), (101 : UInt8), (116 : UInt8), (104 : UInt8), (111 : UInt8), (100 : UInt8)] [] = false) ∧
   ((nmIn [(58 : UInt8), (115 : UInt8), (99 : UInt8), (104 : UInt8), (101 : UInt8), (109 : UInt8), (101 : UInt8)] [] = false) ∧
   ((nmIn [(58 : UInt8), (97 : UInt8), (117 : UInt8), (116 : UInt8), (104 : UInt8), (111 : UInt8), (114 : UInt8), (105 : UInt8), (116 : UInt8), (121 : UInt8)] [] = false) ∧
   ((nmIn [(58 : UInt8), (112 : UInt8), (97 : UInt8), (116 : UInt8), (104 : UInt8)] [] = false) ∧
   (∀ (side : Bool), (br (side)
    (∀ (y : RqP), ((rqG [] rq0 (List.take (psN g) g) = some y) →
    (br (decide ((0 : Int) ≤ (↑(psN g) : Int) ∧ (↑(psN g) : Int) ≤ (↑(List.length g) : Int) ∧ (↑(List.length g) : Int) ≤ (↑(List.length g) : Int)))
     ((((((0 : Nat) + Int.toNat (↑(psN g) : Int) * (2 : Nat) + (Int.toNat (↑(List.length g) : Int) - Int.toNat (↑(psN g) : Int)) * (2 : Nat) ≤ List.length (gC enF g) ∧ Plain (List.take ((Int.toNat (↑(List.length g) : Int) - Int.toNat (↑(psN g) : Int)) * (2 : Nat)) (List.drop ((0 : Nat) + Int.toNat (↑(psN g) : Int) * (2 : Nat)) (gC enF g)))) ∧ True) ∧ ((True ∧ True) ∧ (True ∧ (IsF (Row.mk (List.take ((Int.toNat (↑(List.length g) : Int) - Int.toNat (↑(psN g) : Int)) * (2 : Nat)) (List.drop ((0 : Nat) + Int.toNat (↑(psN g) : Int) * (2 : Nat)) (gC enF g))) true (Ob.cells true)) (Int.toNat (↑(List.length g) : Int) - Int.toNat (↑(psN g) : Int)) ∧ (Int.toNat (↑(List.length g) : Int) - Int.toNat (↑(psN g) : Int) ≤ (9223372036854775807 : Nat) ∧ ShR (Row.mk (List.take ((Int.toNat (↑(List.length g) : Int) - Int.toNat (↑(psN g) : Int)) * (2 : Nat)) (List.drop ((0 : Nat) + Int.toNat (↑(psN g) : Int) * (2 : Nat)) (gC enF g))) true (Ob.cells true)))))))) ∧
     ((((((0 : Nat) + Int.toNat (↑(psN g) : Int) * (2 : Nat) + (Int.toNat (↑(List.length g) : Int) - Int.toNat (↑(psN g) : Int)) * (2 : Nat) ≤ List.length (gC enF g) ∧ Plain (List.take ((Int.toNat (↑(List.length g) : Int) - Int.toNat (↑(psN g) : Int)) * (2 : Nat)) (List.drop ((0 : Nat) + Int.toNat (↑(psN g) : Int) * (2 : Nat)) (gC enF g)))) ∧ True) ∧ ((True ∧ True) ∧ (True ∧ (IsF (Row.mk (List.take ((Int.toNat (↑(List.length g) : Int) - Int.toNat (↑(psN g) : Int)) * (2 : Nat)) (List.drop ((0 : Nat) + Int.toNat (↑(psN g) : Int) * (2 : Nat)) (gC enF g))) true (Ob.cells true)) (Int.toNat (↑(List.length g) : Int) - Int.toNat (↑(psN g) : Int)) ∧ (Int.toNat (↑(List.length g) : Int) - Int.toNat (↑(psN g) : Int) ≤ (9223372036854775807 : Nat) ∧ ShR (Row.mk (List.take ((Int.toNat (↑(List.length g) : Int) - Int.toNat (↑(psN g) : Int)) * (2 : Nat)) (List.drop ((0 : Nat) + Int.toNat (↑(psN g) : Int) * (2 : Nat)) (gC enF g))) true (Ob.cells true)))))))) ∧
     (br (!plR (Row.mk (List.take ((Int.toNat (↑(List.length g) : Int) - Int.toNat (↑(psN g) : Int)) * (2 : Nat)) (List.drop ((0 : Nat) + Int.toNat (↑(psN g) : Int) * (2 : Nat)) (gC enF g))) true (Ob.cells true)))
      ((bs r.1 = ByteArray.mk #[]) ∧
      ((bs r.2 = ByteArray.mk #[]) ∧
      ((bs r.3 = ByteArray.mk #[]) ∧
      ((bs r.4 = ByteArray.mk #[]) ∧
      ((List.length o = (0 : Nat)) ∧
      ((k = (0 : Int)) ∧
      ((b = false) ∧
      ((Eq (α := List Value) (gC enF l) (gC enF g)) ∧
      ((Plain (gC enF l)) ∧
      ((Eq (α := List Value) (gC enF o) ([])) ∧
      True))))))))))
      (br (!rlB (Row.mk (List.take ((Int.toNat (↑(List.length g) : Int) - Int.toNat (↑(psN g) : Int)) * (2 : Nat)) (List.drop ((0 : Nat) + Int.toNat (↑(psN g) : Int) * (2 : Nat)) (gC enF g))) true (Ob.cells true)))
       ((bs r.1 = ByteArray.mk #[]) ∧
       ((bs r.2 = ByteArray.mk #[]) ∧
       ((bs r.3 = ByteArray.mk #[]) ∧
       ((bs r.4 = ByteArray.mk #[]) ∧
       ((List.length o = (0 : Nat)) ∧
       ((k = (0 : Int)) ∧
       ((b = false) ∧
       ((Eq (α := List Value) (gC enF l) (gC enF g)) ∧
       ((Plain (gC enF l)) ∧
       ((Eq (α := List Value) (gC enF o) ([])) ∧
       True))))))))))
       ((((True ∧ True) ∧ (True ∧ (True ∧ List.length (L (bs y.1)) ≤ (9223372036854775807 : Nat))))) ∧
       (br (!tokS (bs y.1))
        ((bs r.1 = ByteArray.mk #[]) ∧
        ((bs r.2 = ByteArray.mk #[]) ∧
        ((bs r.3 = ByteArray.mk #[]) ∧
        ((bs r.4 = ByteArray.mk #[]) ∧
        ((List.length o = (0 : Nat)) ∧
        ((k = (0 : Int)) ∧
        ((b = false) ∧
        ((Eq (α := List Value) (gC enF l) (gC enF g)) ∧
        ((Plain (gC enF l)) ∧
        ((Eq (α := List Value) (gC enF o) ([])) ∧
        True))))))))))
        (br (strEq (bs y.1) (ByteArray.mk #[(67 : UInt8), (79 : UInt8), (78 : UInt8), (78 : UInt8), (69 : UInt8), (67 : UInt8), (84 : UInt8)]))
         ((bs r.1 = ByteArray.mk #[]) ∧
         ((bs r.2 = ByteArray.mk #[]) ∧
         ((bs r.3 = ByteArray.mk #[]) ∧
         ((bs r.4 = ByteArray.mk #[]) ∧
         ((List.length o = (0 : Nat)) ∧
         ((k = (0 : Int)) ∧
         ((b = false) ∧
         ((Eq (α := List Value) (gC enF l) (gC enF g)) ∧
         ((Plain (gC enF l)) ∧
         ((Eq (α := List Value) (gC enF o) ([])) ∧
         True))))))))))
         (br (!nmIn [(58 : UInt8), (115 : UInt8), (99 : UInt8), (104 : UInt8), (101 : UInt8), (109 : UInt8), (101 : UInt8)] (List.take (psN g) g))
          ((bs r.1 = ByteArray.mk #[]) ∧
          ((bs r.2 = ByteArray.mk #[]) ∧
          ((bs r.3 = ByteArray.mk #[]) ∧
          ((bs r.4 = ByteArray.mk #[]) ∧
          ((List.length o = (0 : Nat)) ∧
          ((k = (0 : Int)) ∧
          ((b = false) ∧
          ((Eq (α := List Value) (gC enF l) (gC enF g)) ∧
          ((Plain (gC enF l)) ∧
          ((Eq (α := List Value) (gC enF o) ([])) ∧
          True))))))))))
          (br (!nmIn [(58 : UInt8), (112 : UInt8), (97 : UInt8), (116 : UInt8), (104 : UInt8)] (List.take (psN g) g))
           ((bs r.1 = ByteArray.mk #[]) ∧
           ((bs r.2 = ByteArray.mk #[]) ∧
           ((bs r.3 = ByteArray.mk #[]) ∧
           ((bs r.4 = ByteArray.mk #[]) ∧
           ((List.length o = (0 : Nat)) ∧
           ((k = (0 : Int)) ∧
           ((b = false) ∧
           ((Eq (α := List Value) (gC enF l) (gC enF g)) ∧
           ((Plain (gC enF l)) ∧
           ((Eq (α := List Value) (gC enF o) ([])) ∧
           True))))))))))
           (br (!strEq (bs y.2) (ByteArray.mk #[(104 : UInt8), (116 : UInt8), (116 : UInt8), (112 : UInt8)]))
            (br (!strEq (bs y.2) (ByteArray.mk #[(104 : UInt8), (116 : UInt8), (116 : UInt8), (112 : UInt8), (115 : UInt8)]))
             ((bs r.1 = ByteArray.mk #[]) ∧
             ((bs r.2 = ByteArray.mk #[]) ∧
             ((bs r.3 = ByteArray.mk #[]) ∧
             ((bs r.4 = ByteArray.mk #[]) ∧
             ((List.length o = (0 : Nat)) ∧
             ((k = (0 : Int)) ∧
             ((b = false) ∧
             ((Eq (α := List Value) (gC enF l) (gC enF g)) ∧
             ((Plain (gC enF l)) ∧
             ((Eq (α := List Value) (gC enF o) ([])) ∧
             True))))))))))
             (br (strEq (bs y.3) (ByteArray.mk #[]))
              ((bs r.1 = ByteArray.mk #[]) ∧
              ((bs r.2 = ByteArray.mk #[]) ∧
              ((bs r.3 = ByteArray.mk #[]) ∧
              ((bs r.4 = ByteArray.mk #[]) ∧
              ((List.length o = (0 : Nat)) ∧
              ((k = (0 : Int)) ∧
              ((b = false) ∧
              ((Eq (α := List Value) (gC enF l) (gC enF g)) ∧
              ((Plain (gC enF l)) ∧
              ((Eq (α := List Value) (gC enF o) ([])) ∧
              True))))))))))
              (br (strEq (bs y.4) (ByteArray.mk #[]))
               ((bs r.1 = ByteArray.mk #[]) ∧
               ((bs r.2 = ByteArray.mk #[]) ∧
               ((bs r.3 = ByteArray.mk #[]) ∧
               ((bs r.4 = ByteArray.mk #[]) ∧
               ((List.length o = (0 : Nat)) ∧
               ((k = (0 : Int)) ∧
               ((b = false) ∧
               ((Eq (α := List Value) (gC enF l) (gC enF g)) ∧
               ((Plain (gC enF l)) ∧
               ((Eq (α := List Value) (gC enF o) ([])) ∧
               True))))))))))
               (br (decide ((0 : Int) ≤ (0 : Int) ∧ (0 : Int) < (↑(List.length (Array.toList (ByteArray.data (bs y.4)))) : Int)))
                (br (byteAt (bs y.4) (0 : Nat) != (47 : Int))
                 (br (strEq (bs y.4) (ByteArray.mk #[(42 : UInt8)]))
                  (br (!strEq (bs y.1) (ByteArray.mk #[(79 : UInt8), (80 : UInt8), (84 : UInt8), (73 : UInt8), (79 : UInt8), (78 : UInt8), (83 : UInt8)]))
                   ((bs r.1 = ByteArray.mk #[]) ∧
                   ((bs r.2 = ByteArray.mk #[]) ∧
                   ((bs r.3 = ByteArray.mk #[]) ∧
                   ((bs r.4 = ByteArray.mk #[]) ∧
                   ((List.length o = (0 : Nat)) ∧
                   ((k = (0 : Int)) ∧
                   ((b = false) ∧
                   ((Eq (α := List Value) (gC enF l) (gC enF g)) ∧
                   ((Plain (gC enF l)) ∧
                   ((Eq (α := List Value) (gC enF o) ([])) ∧
                   True))))))))))
                   (br (decide ((0 : Nat) + Int.toNat (↑(psN g) : Int) * (2 : Nat) + (Int.toNat (↑(List.length g) : Int) - Int.toNat (↑(psN g) : Int)) * (2 : Nat) ≤ List.length (gC enF g)))
                    (br (allOne (List.take ((Int.toNat (↑(List.length g) : Int) - Int.toNat (↑(psN g) : Int)) * (2 : Nat)) (List.drop ((0 : Nat) + Int.toNat (↑(psN g) : Int) * (2 : Nat)) (gC enF g))))
                     (br (decide ((0 : Nat) + (Int.toNat (↑(List.length g) : Int) - Int.toNat (↑(psN g) : Int)) ≤ (16777216 : Nat)))
                      (br (decide ((0 : Nat) < (0 : Nat) + (Int.toNat (↑(List.length g) : Int) - Int.toNat (↑(psN g) : Int)) ∨ List.length (List.flatten (List.replicate (0 : Nat) (Array.toList (Value.cells (Value.agg #[Value.string (ByteArray.mk #[]), Value.string (ByteArray.mk #[])]))))) = (0 : Nat)))
                       ((bs r.1 = bs y.1) ∧
                       ((bs r.2 = bs y.2) ∧
                       ((bs r.3 = bs y.3) ∧
                       ((bs r.4 = bs y.4) ∧
                       (((0 : Nat) = (0 : Nat)) ∧
                       ((List.length o = (0 : Nat) + (Int.toNat (↑(List.length g) : Int) - Int.toNat (↑(psN g) : Int))) ∧
                       ((k = rlK (Row.mk (List.take ((Int.toNat (↑(List.length g) : Int) - Int.toNat (↑(psN g) : Int)) * (2 : Nat)) (List.drop ((0 : Nat) + Int.toNat (↑(psN g) : Int) * (2 : Nat)) (gC enF g))) true (Ob.cells true))) ∧
                       ((b = true) ∧
                       ((Eq (α := List Value) (gC enF l) (gC enF g)) ∧
                       ((Plain (gC enF l)) ∧
                       ((Eq (α := List Value) (gC enF o) ([] ++ List.take ((Int.toNat (↑(List.length g) : Int) - Int.toNat (↑(psN g) : Int)) * (2 : Nat)) (List.drop ((0 : Nat) + Int.toNat (↑(psN g) : Int) * (2 : Nat)) (gC enF g)))) ∧
                       ((Plain (gC enF o)) ∧
                       True))))))))))))
                       ((bs r.1 = bs y.1) ∧
                       ((bs r.2 = bs y.2) ∧
                       ((bs r.3 = bs y.3) ∧
                       ((bs r.4 = bs y.4) ∧
                       (((0 : Nat) = (0 : Nat)) ∧
                       ((List.length o = (0 : Nat)) ∧
                       ((k = rlK (Row.mk (List.take ((Int.toNat (↑(List.length g) : Int) - Int.toNat (↑(psN g) : Int)) * (2 : Nat)) (List.drop ((0 : Nat) + Int.toNat (↑(psN g) : Int) * (2 : Nat)) (gC enF g))) true (Ob.cells true))) ∧
                       ((b = true) ∧
                       ((Eq (α := List Value) (gC enF l) (gC enF g)) ∧
                       ((Plain (gC enF l)) ∧
                       ((Eq (α := List Value) (gC enF o) ([])) ∧
                       ((Plain (gC enF o)) ∧
                       True)))))))))))))
                      False)
                     False)
                    False))
                  ((bs r.1 = ByteArray.mk #[]) ∧
                  ((bs r.2 = ByteArray.mk #[]) ∧
                  ((bs r.3 = ByteArray.mk #[]) ∧
                  ((bs r.4 = ByteArray.mk #[]) ∧
                  ((List.length o = (0 : Nat)) ∧
                  ((k = (0 : Int)) ∧
                  ((b = false) ∧
                  ((Eq (α := List Value) (gC enF l) (gC enF g)) ∧
                  ((Plain (gC enF l)) ∧
                  ((Eq (α := List Value) (gC enF o) ([])) ∧
                  True)))))))))))
                 (br (decide ((0 : Nat) + Int.toNat (↑(psN g) : Int) * (2 : Nat) + (Int.toNat (↑(List.length g) : Int) - Int.toNat (↑(psN g) : Int)) * (2 : Nat) ≤ List.length (gC enF g)))
                  (br (allOne (List.take ((Int.toNat (↑(List.length g) : Int) - Int.toNat (↑(psN g) : Int)) * (2 : Nat)) (List.drop ((0 : Nat) + Int.toNat (↑(psN g) : Int) * (2 : Nat)) (gC enF g))))
                   (br (decide ((0 : Nat) + (Int.toNat (↑(List.length g) : Int) - Int.toNat (↑(psN g) : Int)) ≤ (16777216 : Nat)))
                    (br (decide ((0 : Nat) < (0 : Nat) + (Int.toNat (↑(List.length g) : Int) - Int.toNat (↑(psN g) : Int)) ∨ List.length (List.flatten (List.replicate (0 : Nat) (Array.toList (Value.cells (Value.agg #[Value.string (ByteArray.mk #[]), Value.string (ByteArray.mk #[])]))))) = (0 : Nat)))
                     ((bs r.1 = bs y.1) ∧
                     ((bs r.2 = bs y.2) ∧
                     ((bs r.3 = bs y.3) ∧
                     ((bs r.4 = bs y.4) ∧
                     (((0 : Nat) = (0 : Nat)) ∧
                     ((List.length o = (0 : Nat) + (Int.toNat (↑(List.length g) : Int) - Int.toNat (↑(psN g) : Int))) ∧
                     ((k = rlK (Row.mk (List.take ((Int.toNat (↑(List.length g) : Int) - Int.toNat (↑(psN g) : Int)) * (2 : Nat)) (List.drop ((0 : Nat) + Int.toNat (↑(psN g) : Int) * (2 : Nat)) (gC enF g))) true (Ob.cells true))) ∧
                     ((b = true) ∧
                     ((Eq (α := List Value) (gC enF l) (gC enF g)) ∧
                     ((Plain (gC enF l)) ∧
                     ((Eq (α := List Value) (gC enF o) ([] ++ List.take ((Int.toNat (↑(List.length g) : Int) - Int.toNat (↑(psN g) : Int)) * (2 : Nat)) (List.drop ((0 : Nat) + Int.toNat (↑(psN g) : Int) * (2 : Nat)) (gC enF g)))) ∧
                     ((Plain (gC enF o)) ∧
                     True))))))))))))
                     ((bs r.1 = bs y.1) ∧
                     ((bs r.2 = bs y.2) ∧
                     ((bs r.3 = bs y.3) ∧
                     ((bs r.4 = bs y.4) ∧
                     (((0 : Nat) = (0 : Nat)) ∧
                     ((List.length o = (0 : Nat)) ∧
                     ((k = rlK (Row.mk (List.take ((Int.toNat (↑(List.length g) : Int) - Int.toNat (↑(psN g) : Int)) * (2 : Nat)) (List.drop ((0 : Nat) + Int.toNat (↑(psN g) : Int) * (2 : Nat)) (gC enF g))) true (Ob.cells true))) ∧
                     ((b = true) ∧
                     ((Eq (α := List Value) (gC enF l) (gC enF g)) ∧
                     ((Plain (gC enF l)) ∧
                     ((Eq (α := List Value) (gC enF o) ([])) ∧
                     ((Plain (gC enF o)) ∧
                     True)))))))))))))
                    False)
                   False)
                  False))
                False))))
            (br (strEq (bs y.3) (ByteArray.mk #[]))
             ((bs r.1 = ByteArray.mk #[]) ∧
             ((bs r.2 = ByteArray.mk #[]) ∧
             ((bs r.3 = ByteArray.mk #[]) ∧
             ((bs r.4 = ByteArray.mk #[]) ∧
             ((List.length o = (0 : Nat)) ∧
             ((k = (0 : Int)) ∧
             ((b = false) ∧
             ((Eq (α := List Value) (gC enF l) (gC enF g)) ∧
             ((Plain (gC enF l)) ∧
             ((Eq (α := List Value) (gC enF o) ([])) ∧
             True))))))))))
             (br (strEq (bs y.4) (ByteArray.mk #[]))
              ((bs r.1 = ByteArray.mk #[]) ∧
              ((bs r.2 = ByteArray.mk #[]) ∧
              ((bs r.3 = ByteArray.mk #[]) ∧
              ((bs r.4 = ByteArray.mk #[]) ∧
              ((List.length o = (0 : Nat)) ∧
              ((k = (0 : Int)) ∧
              ((b = false) ∧
              ((Eq (α := List Value) (gC enF l) (gC enF g)) ∧
              ((Plain (gC enF l)) ∧
              ((Eq (α := List Value) (gC enF o) ([])) ∧
              True))))))))))
              (br (decide ((0 : Int) ≤ (0 : Int) ∧ (0 : Int) < (↑(List.length (Array.toList (ByteArray.data (bs y.4)))) : Int)))
               (br (byteAt (bs y.4) (0 : Nat) != (47 : Int))
                (br (strEq (bs y.4) (ByteArray.mk #[(42 : UInt8)]))
                 (br (!strEq (bs y.1) (ByteArray.mk #[(79 : UInt8), (80 : UInt8), (84 : UInt8), (73 : UInt8), (79 : UInt8), (78 : UInt8), (83 : UInt8)]))
                  ((bs r.1 = ByteArray.mk #[]) ∧
                  ((bs r.2 = ByteArray.mk #[]) ∧
                  ((bs r.3 = ByteArray.mk #[]) ∧
                  ((bs r.4 = ByteArray.mk #[]) ∧
                  ((List.length o = (0 : Nat)) ∧
                  ((k = (0 : Int)) ∧
                  ((b = false) ∧
                  ((Eq (α := List Value) (gC enF l) (gC enF g)) ∧
                  ((Plain (gC enF l)) ∧
                  ((Eq (α := List Value) (gC enF o) ([])) ∧
                  True))))))))))
                  (br (decide ((0 : Nat) + Int.toNat (↑(psN g) : Int) * (2 : Nat) + (Int.toNat (↑(List.length g) : Int) - Int.toNat (↑(psN g) : Int)) * (2 : Nat) ≤ List.length (gC enF g)))
                   (br (allOne (List.take ((Int.toNat (↑(List.length g) : Int) - Int.toNat (↑(psN g) : Int)) * (2 : Nat)) (List.drop ((0 : Nat) + Int.toNat (↑(psN g) : Int) * (2 : Nat)) (gC enF g))))
                    (br (decide ((0 : Nat) + (Int.toNat (↑(List.length g) : Int) - Int.toNat (↑(psN g) : Int)) ≤ (16777216 : Nat)))
                     (br (decide ((0 : Nat) < (0 : Nat) + (Int.toNat (↑(List.length g) : Int) - Int.toNat (↑(psN g) : Int)) ∨ List.length (List.flatten (List.replicate (0 : Nat) (Array.toList (Value.cells (Value.agg #[Value.string (ByteArray.mk #[]), Value.string (ByteArray.mk #[])]))))) = (0 : Nat)))
                      ((bs r.1 = bs y.1) ∧
                      ((bs r.2 = bs y.2) ∧
                      ((bs r.3 = bs y.3) ∧
                      ((bs r.4 = bs y.4) ∧
                      (((0 : Nat) = (0 : Nat)) ∧
                      ((List.length o = (0 : Nat) + (Int.toNat (↑(List.length g) : Int) - Int.toNat (↑(psN g) : Int))) ∧
                      ((k = rlK (Row.mk (List.take ((Int.toNat (↑(List.length g) : Int) - Int.toNat (↑(psN g) : Int)) * (2 : Nat)) (List.drop ((0 : Nat) + Int.toNat (↑(psN g) : Int) * (2 : Nat)) (gC enF g))) true (Ob.cells true))) ∧
                      ((b = true) ∧
                      ((Eq (α := List Value) (gC enF l) (gC enF g)) ∧
                      ((Plain (gC enF l)) ∧
                      ((Eq (α := List Value) (gC enF o) ([] ++ List.take ((Int.toNat (↑(List.length g) : Int) - Int.toNat (↑(psN g) : Int)) * (2 : Nat)) (List.drop ((0 : Nat) + Int.toNat (↑(psN g) : Int) * (2 : Nat)) (gC enF g)))) ∧
                      ((Plain (gC enF o)) ∧
                      True))))))))))))
                      ((bs r.1 = bs y.1) ∧
                      ((bs r.2 = bs y.2) ∧
                      ((bs r.3 = bs y.3) ∧
                      ((bs r.4 = bs y.4) ∧
                      (((0 : Nat) = (0 : Nat)) ∧
                      ((List.length o = (0 : Nat)) ∧
                      ((k = rlK (Row.mk (List.take ((Int.toNat (↑(List.length g) : Int) - Int.toNat (↑(psN g) : Int)) * (2 : Nat)) (List.drop ((0 : Nat) + Int.toNat (↑(psN g) : Int) * (2 : Nat)) (gC enF g))) true (Ob.cells true))) ∧
                      ((b = true) ∧
                      ((Eq (α := List Value) (gC enF l) (gC enF g)) ∧
                      ((Plain (gC enF l)) ∧
                      ((Eq (α := List Value) (gC enF o) ([])) ∧
                      ((Plain (gC enF o)) ∧
                      True)))))))))))))
                     False)
                    False)
                   False))
                 ((bs r.1 = ByteArray.mk #[]) ∧
                 ((bs r.2 = ByteArray.mk #[]) ∧
                 ((bs r.3 = ByteArray.mk #[]) ∧
                 ((bs r.4 = ByteArray.mk #[]) ∧
                 ((List.length o = (0 : Nat)) ∧
                 ((k = (0 : Int)) ∧
                 ((b = false) ∧
                 ((Eq (α := List Value) (gC enF l) (gC enF g)) ∧
                 ((Plain (gC enF l)) ∧
                 ((Eq (α := List Value) (gC enF o) ([])) ∧
                 True)))))))))))
                (br (decide ((0 : Nat) + Int.toNat (↑(psN g) : Int) * (2 : Nat) + (Int.toNat (↑(List.length g) : Int) - Int.toNat (↑(psN g) : Int)) * (2 : Nat) ≤ List.length (gC enF g)))
                 (br (allOne (List.take ((Int.toNat (↑(List.length g) : Int) - Int.toNat (↑(psN g) : Int)) * (2 : Nat)) (List.drop ((0 : Nat) + Int.toNat (↑(psN g) : Int) * (2 : Nat)) (gC enF g))))
                  (br (decide ((0 : Nat) + (Int.toNat (↑(List.length g) : Int) - Int.toNat (↑(psN g) : Int)) ≤ (16777216 : Nat)))
                   (br (decide ((0 : Nat) < (0 : Nat) + (Int.toNat (↑(List.length g) : Int) - Int.toNat (↑(psN g) : Int)) ∨ List.length (List.flatten (List.replicate (0 : Nat) (Array.toList (Value.cells (Value.agg #[Value.string (ByteArray.mk #[]), Value.string (ByteArray.mk #[])]))))) = (0 : Nat)))
                    ((bs r.1 = bs y.1) ∧
                    ((bs r.2 = bs y.2) ∧
                    ((bs r.3 = bs y.3) ∧
                    ((bs r.4 = bs y.4) ∧
                    (((0 : Nat) = (0 : Nat)) ∧
                    ((List.length o = (0 : Nat) + (Int.toNat (↑(List.length g) : Int) - Int.toNat (↑(psN g) : Int))) ∧
                    ((k = rlK (Row.mk (List.take ((Int.toNat (↑(List.length g) : Int) - Int.toNat (↑(psN g) : Int)) * (2 : Nat)) (List.drop ((0 : Nat) + Int.toNat (↑(psN g) : Int) * (2 : Nat)) (gC enF g))) true (Ob.cells true))) ∧
                    ((b = true) ∧
                    ((Eq (α := List Value) (gC enF l) (gC enF g)) ∧
                    ((Plain (gC enF l)) ∧
                    ((Eq (α := List Value) (gC enF o) ([] ++ List.take ((Int.toNat (↑(List.length g) : Int) - Int.toNat (↑(psN g) : Int)) * (2 : Nat)) (List.drop ((0 : Nat) + Int.toNat (↑(psN g) : Int) * (2 : Nat)) (gC enF g)))) ∧
                    ((Plain (gC enF o)) ∧
                    True))))))))))))
                    ((bs r.1 = bs y.1) ∧
                    ((bs r.2 = bs y.2) ∧
                    ((bs r.3 = bs y.3) ∧
                    ((bs r.4 = bs y.4) ∧
                    (((0 : Nat) = (0 : Nat)) ∧
                    ((List.length o = (0 : Nat)) ∧
                    ((k = rlK (Row.mk (List.take ((Int.toNat (↑(List.length g) : Int) - Int.toNat (↑(psN g) : Int)) * (2 : Nat)) (List.drop ((0 : Nat) + Int.toNat (↑(psN g) : Int) * (2 : Nat)) (gC enF g))) true (Ob.cells true))) ∧
                    ((b = true) ∧
                    ((Eq (α := List Value) (gC enF l) (gC enF g)) ∧
                    ((Plain (gC enF l)) ∧
                    ((Eq (α := List Value) (gC enF o) ([])) ∧
                    ((Plain (gC enF o)) ∧
                    True)))))))))))))
                   False)
                  False)
                 False))
               False)))))))))))))
     False)))
    (∀ (y : RqP), ((rqG [] rq0 (List.take (psN g) g) = none) →
    ((bs r.1 = ByteArray.mk #[]) ∧
    ((bs r.2 = ByteArray.mk #[]) ∧
    ((bs r.3 = ByteArray.mk #[]) ∧
    ((bs r.4 = ByteArray.mk #[]) ∧
    ((List.length o = (0 : Nat)) ∧
    ((k = (0 : Int)) ∧
    ((b = false) ∧
    ((Eq (α := List Value) (gC enF l) (gC enF g)) ∧
    ((Plain (gC enF l)) ∧
    ((Eq (α := List Value) (gC enF o) ([])) ∧
    True))))))))))))))))))))))))))))))))))))))))) := by kernel_rfl
theorem Rp_vc (l o : List Fl) (st k : Int) (b : Bool) : mcall EtRp noM 60 16 [.slice (some ⟨0, 0, none⟩) l.length 2] ⟨mkR (nums 0 [gRo enF l]), 1⟩ (retIs 1 (.tuple #[.agg ⟨[.int .i64 st, .slice (some ⟨1, 0, none⟩) o.length 2, .int .i64 k]⟩, .bool b]) [gRo enF l, gOwn enF o]) =
  ((((((0 : Nat) + List.length l * (2 : Nat) ≤ List.length (gC enF l) ∧ Plain (List.take (List.length l * (2 : Nat)) (List.drop (0 : Nat) (gC enF l)))) ∧ True) ∧ ((True ∧ True) ∧ (True ∧ (IsF (Row.mk (List.take (List.length l * (2 : Nat)) (List.drop (0 : Nat) (gC enF l))) true (Ob.cells true)) (List.length l) ∧ List.length l ≤ (9223372036854775807 : Nat)))))) ∧
  (br (!baR (Row.mk (List.take (List.length l * (2 : Nat)) (List.drop (0 : Nat) (gC enF l))) true (Ob.cells true)))
   ((st = (0 : Int)) ∧
   ((List.length o = (0 : Nat)) ∧
   ((k = (0 : Int)) ∧
   ((b = false) ∧
   ((Eq (α := List Value) (gC enF l) (gC enF l)) ∧
   ((Plain (gC enF l)) ∧
   ((Eq (α := List Value) (gC enF o) ([])) ∧
   True)))))))
   (br (psR (Row.mk (List.take (List.length l * (2 : Nat)) (List.drop (0 : Nat) (gC enF l))) true (Ob.cells true)) != (1 : Int))
    ((st = (0 : Int)) ∧
    ((List.length o = (0 : Nat)) ∧
    ((k = (0 : Int)) ∧
    ((b = false) ∧
    ((Eq (α := List Value) (gC enF l) (gC enF l)) ∧
    ((Plain (gC enF l)) ∧
    ((Eq (α := List Value) (gC enF o) ([])) ∧
    True)))))))
    (br (decide ((0 : Int) ≤ (0 : Int) ∧ (0 : Int) < (↑(List.length l) : Int)))
     ((Eq (α := Option Value) ((gC enF l)[(0 : Nat)]?) (some (Value.string (cellS (gC enF l) (0 : Nat))))) ∧
     (br (!strEq (cellS (gC enF l) (0 : Nat)) (ByteArray.mk #[(58 : UInt8), (115 : UInt8), (116 : UInt8), (97 : UInt8), (116 : UInt8), (117 : UInt8), (115 : UInt8)]))
      ((st = (0 : Int)) ∧
      ((List.length o = (0 : Nat)) ∧
      ((k = (0 : Int)) ∧
      ((b = false) ∧
      ((Eq (α := List Value) (gC enF l) (gC enF l)) ∧
      ((Plain (gC enF l)) ∧
      ((Eq (α := List Value) (gC enF o) ([])) ∧
      True)))))))
      (br (decide ((0 : Int) ≤ (0 : Int) ∧ (0 : Int) < (↑(List.length l) : Int)))
       ((Eq (α := Option Value) ((gC enF l)[(1 : Nat)]?) (some (Value.string (cellS (gC enF l) (1 : Nat))))) ∧
       (br (Int.ofNat (List.length (Array.toList (ByteArray.data (cellS (gC enF l) (1 : Nat))))) != (3 : Int))
        ((st = (0 : Int)) ∧
        ((List.length o = (0 : Nat)) ∧
        ((k = (0 : Int)) ∧
        ((b = false) ∧
        ((Eq (α := List Value) (gC enF l) (gC enF l)) ∧
        ((Plain (gC enF l)) ∧
        ((Eq (α := List Value) (gC enF o) ([])) ∧
        True)))))))
        (br (decide ((0 : Int) ≤ (0 : Int) ∧ (0 : Int) < (↑(List.length l) : Int)))
         ((Eq (α := Option Value) ((gC enF l)[(1 : Nat)]?) (some (Value.string (cellS (gC enF l) (1 : Nat))))) ∧
         ((((True ∧ True) ∧ (True ∧ (True ∧ List.length (L (cellS (gC enF l) (1 : Nat))) ≤ (9223372036854775807 : Nat))))) ∧
         (br (decide ((0 : Int) ≤ (1 : Int) ∧ (1 : Int) ≤ (↑(List.length l) : Int) ∧ (↑(List.length l) : Int) ≤ (↑(List.length l) : Int)))
          ((((((2 : Nat) + (Int.toNat (↑(List.length l) : Int) - (1 : Nat)) * (2 : Nat) ≤ List.length (gC enF l) ∧ Plain (List.take ((Int.toNat (↑(List.length l) : Int) - (1 : Nat)) * (2 : Nat)) (List.drop (2 : Nat) (gC enF l)))) ∧ True) ∧ ((True ∧ True) ∧ (True ∧ (IsF (Row.mk (List.take ((Int.toNat (↑(List.length l) : Int) - (1 : Nat)) * (2 : Nat)) (List.drop (2 : Nat) (gC enF l))) true (Ob.cells true)) (Int.toNat (↑(List.length l) : Int) - (1 : Nat)) ∧ (Int.toNat (↑(List.length l) : Int) - (1 : Nat) ≤ (9223372036854775807 : Nat) ∧ ShR (Row.mk (List.take ((Int.toNat (↑(List.length l) : Int) - (1 : Nat)) * (2 : Nat)) (List.drop (2 : Nat) (gC enF l))) true (Ob.cells true)))))))) ∧
          (br (decide (secS (cellS (gC enF l) (1 : Nat)) < (100 : Int)))
           ((st = (0 : Int)) ∧
           ((List.length o = (0 : Nat)) ∧
           ((k = (0 : Int)) ∧
           ((b = false) ∧
           ((Eq (α := List Value) (gC enF l) (gC enF l)) ∧
           ((Plain (gC enF l)) ∧
           ((Eq (α := List Value) (gC enF o) ([])) ∧
           True)))))))
           (br (decide (secS (cellS (gC enF l) (1 : Nat)) > (599 : Int)))
            ((st = (0 : Int)) ∧
            ((List.length o = (0 : Nat)) ∧
            ((k = (0 : Int)) ∧
            ((b = false) ∧
            ((Eq (α := List Value) (gC enF l) (gC enF l)) ∧
            ((Plain (gC enF l)) ∧
            ((Eq (α := List Value) (gC enF o) ([])) ∧
            True)))))))
            (br (secS (cellS (gC enF l) (1 : Nat)) == (101 : Int))
             ((st = (0 : Int)) ∧
             ((List.length o = (0 : Nat)) ∧
             ((k = (0 : Int)) ∧
             ((b = false) ∧
             ((Eq (α := List Value) (gC enF l) (gC enF l)) ∧
             ((Plain (gC enF l)) ∧
             ((Eq (α := List Value) (gC enF o) ([])) ∧
             True)))))))
             ((((((2 : Nat) + (Int.toNat (↑(List.length l) : Int) - (1 : Nat)) * (2 : Nat) ≤ List.length (gC enF l) ∧ Plain (List.take ((Int.toNat (↑(List.length l) : Int) - (1 : Nat)) * (2 : Nat)) (List.drop (2 : Nat) (gC enF l)))) ∧ True) ∧ ((True ∧ True) ∧ (True ∧ (IsF (Row.mk (List.take ((Int.toNat (↑(List.length l) : Int) - (1 : Nat)) * (2 : Nat)) (List.drop (2 : Nat) (gC enF l))) true (Ob.cells true)) (Int.toNat (↑(List.length l) : Int) - (1 : Nat)) ∧ (Int.toNat (↑(List.length l) : Int) - (1 : Nat) ≤ (9223372036854775807 : Nat) ∧ ShR (Row.mk (List.take ((Int.toNat (↑(List.length l) : Int) - (1 : Nat)) * (2 : Nat)) (List.drop (2 : Nat) (gC enF l))) true (Ob.cells true)))))))) ∧
             (br (!plR (Row.mk (List.take ((Int.toNat (↑(List.length l) : Int) - (1 : Nat)) * (2 : Nat)) (List.drop (2 : Nat) (gC enF l))) true (Ob.cells true)))
              ((st = (0 : Int)) ∧
              ((List.length o = (0 : Nat)) ∧
              ((k = (0 : Int)) ∧
              ((b = false) ∧
              ((Eq (α := List Value) (gC enF l) (gC enF l)) ∧
              ((Plain (gC enF l)) ∧
              ((Eq (α := List Value) (gC enF o) ([])) ∧
              True)))))))
              (br (!rlB (Row.mk (List.take ((Int.toNat (↑(List.length l) : Int) - (1 : Nat)) * (2 : Nat)) (List.drop (2 : Nat) (gC enF l))) true (Ob.cells true)))
               ((st = (0 : Int)) ∧
               ((List.length o = (0 : Nat)) ∧
               ((k = (0 : Int)) ∧
               ((b = false) ∧
               ((Eq (α := List Value) (gC enF l) (gC enF l)) ∧
               ((Plain (gC enF l)) ∧
               ((Eq (α := List Value) (gC enF o) ([])) ∧
               True)))))))
               (br (decide ((2 : Nat) + (Int.toNat (↑(List.length l) : Int) - (1 : Nat)) * (2 : Nat) ≤ List.length (gC enF l)))
                (br (allOne (List.take ((Int.toNat (↑(List.length l) : Int) - (1 : Nat)) * (2 : Nat)) (List.drop (2 : Nat) (gC enF l))))
                 (br (decide ((0 : Nat) + (Int.toNat (↑(List.length l) : Int) - (1 : Nat)) ≤ (16777216 : Nat)))
                  (br (decide ((0 : Nat) < (0 : Nat) + (Int.toNat (↑(List.length l) : Int) - (1 : Nat)) ∨ List.length (List.flatten (List.replicate (0 : Nat) (Array.toList (Value.cells (Value.agg #[Value.string (ByteArray.mk #[]), Value.string (ByteArray.mk #[])]))))) = (0 : Nat)))
                   ((st = secS (cellS (gC enF l) (1 : Nat))) ∧
                   (((0 : Nat) = (0 : Nat)) ∧
                   ((List.length o = (0 : Nat) + (Int.toNat (↑(List.length l) : Int) - (1 : Nat))) ∧
                   ((k = rlK (Row.mk (List.take ((Int.toNat (↑(List.length l) : Int) - (1 : Nat)) * (2 : Nat)) (List.drop (2 : Nat) (gC enF l))) true (Ob.cells true))) ∧
                   ((b = true) ∧
                   ((Eq (α := List Value) (gC enF l) (gC enF l)) ∧
                   ((Plain (gC enF l)) ∧
                   ((Eq (α := List Value) (gC enF o) ([] ++ List.take ((Int.toNat (↑(List.length l) : Int) - (1 : Nat)) * (2 : Nat)) (List.drop (2 : Nat) (gC enF l)))) ∧
                   ((Plain (gC enF o)) ∧
                   True)))))))))
                   ((st = secS (cellS (gC enF l) (1 : Nat))) ∧
                   (((0 : Nat) = (0 : Nat)) ∧
                   ((List.length o = (0 : Nat)) ∧
                   ((k = rlK (Row.mk (List.take ((Int.toNat (↑(List.length l) : Int) - (1 : Nat)) * (2 : Nat)) (List.drop (2 : Nat) (gC enF l))) true (Ob.cells true))) ∧
                   ((b = true) ∧
                   ((Eq (α := List Value) (gC enF l) (gC enF l)) ∧
                   ((Plain (gC enF l)) ∧
                   ((Eq (α := List Value) (gC enF o) ([])) ∧
                   ((Plain (gC enF o)) ∧
                   True))))))))))
                  False)
                 False)
                False))))))))
          False)))
         False)))
       False)))
     False)))) := by kernel_rfl
theorem tRr_ok : ∀ x ∈ tRr, EntOk Try.prog x := all_cons eRba_ok (all_cons eRvl_ok (all_cons eRln_ok (all_cons eRpl_ok (all_cons eRtk_ok (all_nil)))))
theorem tRp_ok : ∀ x ∈ tRp, EntOk Try.prog x := all_cons eRba_ok (all_cons eRnum_ok (all_cons eRln_ok (all_cons eRpl_ok (all_nil))))
theorem n_ba (l : List Fl) (b : Bool) (o : Ob) : baR ⟨gC enF l, b, o⟩ = baB l := by unfold baR; simp only; rw [decF_gC]
theorem n_rlK (l : List Fl) (b : Bool) (o : Ob) : rlK ⟨gC enF l, b, o⟩ = if lenL l = -2 then -1 else lenL l := by unfold rlK; rw [n_len]
theorem n_rlB (l : List Fl) (b : Bool) (o : Ob) : rlB ⟨gC enF l, b, o⟩ = !decide (lenL l = -2) := by unfold rlB; rw [n_len]
theorem nmIn_app (nm : List UInt8) (l : List Fl) (f : Fl) : nmIn nm (l ++ [f]) = (nmIn nm l || decide (f.n = nm)) := by unfold nmIn; rw [List.any_append]; simp
theorem Rr_piece : PieceOk EtRr 1 (15, pRr, specRr) := by
  refine piece_loop mixed (calls_envT tRr_ok) (lok_envT _ _) lm_none (n := 60) (by kernel_rfl) (fun _ : List Fl => (⟨rq0, 0⟩ : StR)) (fun l s => s.i ≤ psN l ∧ rqG [] rq0 (l.take (psN l)) = rqG (l.take s.i) s.r ((l.take (psN l)).drop s.i)) (fun l s => psN l - s.i) (sl := slRr) (rl := rlRr) (fun l hg => ⟨Nat.zero_le _, rfl⟩) (fun l s hg hi => ?_)
  refine (Rr_round l s _ _).mpr ?_
  obtain ⟨r, i⟩ := s
  obtain ⟨h1, h2⟩ := hi
  obtain ⟨g1, g2⟩ := hg
  have hm : maxLen = 9223372036854775807 := by unfold maxLen; rfl
  have hp := psN_le l
  simp only at h1 h2
  simp only [ofNat_eq, toNat_cast, Nat.zero_add, Nat.add_zero, Nat.mul_one, List.drop_zero, bCells_len, bCells_drop, bCells_take, bCells_app, bCells_one, bCells_plain, List.length_replicate, List.length_append, List.length_take, List.length_drop, List.take_length, and_true, true_and, and_self, decide_true, List.length_nil, List.length_cons, Nat.sub_zero, dB_mk, dB_ro, List.take_zero, fPl, bs_dd]
  refine br_if (fun h => br_dec (by omega) ?_) (fun h => ?_)
  rotate_left
  · have e : i = psN l := by omega
    subst e
    exact ⟨r, by rw [h2, List.drop_eq_nil_of_le (by simp; omega)]; rfl, rfl, rfl, rfl, rfl, rfl, rfl, rfl, rfl⟩
  have hi : i < psN l := by omega
  have hil : i < l.length := by omega
  obtain ⟨c1, c2, c3, c4⟩ := fGet l i hil
  have hd : (l.take (psN l)).drop i = l[i] :: (l.take (psN l)).drop (i + 1) := by
    rw [List.drop_eq_getElem_cons (by simp; omega), List.getElem_take]
  have ht : l.take (i + 1) = l.take i ++ [l[i]] := List.take_succ_eq_append_getElem hil
  rw [hd, rqG, ← ht] at h2
  have hs := g2 _ (List.getElem_mem hil)
  have w : IntKind.wrap .i64 ((i : Int) + 1) = ((i + 1 : Nat) : Int) := i64_succ (by omega)
  generalize l[i] = f at *
  have q1 : (⟨#[58, 109, 101, 116, 104, 111, 100]⟩ : ByteArray) = bs sMet := rfl
  have q2 : (⟨#[58, 115, 99, 104, 101, 109, 101]⟩ : ByteArray) = bs sSch := rfl
  have q3 : (⟨#[58, 97, 117, 116, 104, 111, 114, 105, 116, 121]⟩ : ByteArray) = bs sAut := rfl
  have q4 : (⟨#[58, 112, 97, 116, 104]⟩ : ByteArray) = bs sPat := rfl
  have p1 : ([58, 109, 101, 116, 104, 111, 100] : List UInt8) = sMet := rfl
  have p2 : ([58, 115, 99, 104, 101, 109, 101] : List UInt8) = sSch := rfl
  have p3 : ([58, 97, 117, 116, 104, 111, 114, 105, 116, 121] : List UInt8) = sAut := rfl
  have p4 : ([58, 112, 97, 116, 104] : List UInt8) = sPat := rfl
  have no : (valL f.v && !nmIn f.n (l.take i)) = false → ∃ y : RqP, rqG [] rq0 (l.take (psN l)) = none := fun h => ⟨rq0, by rw [h2, h]; rfl⟩
  simp only [c1, c2, c3, c4, w, L_bse, valS, q1, q2, q3, q4, true_and]
  simp only [strEq_bs, p1, p2, p3, p4]
  have go : ∀ r', (valL f.v && !nmIn f.n (l.take i)) = true → setP r f = some r' → rqG [] rq0 (l.take (psN l)) = rqG (l.take (i + 1)) r' ((l.take (psN l)).drop (i + 1)) := fun r' h h' => by rw [h2, if_pos h, h']
  have nx : ∀ x, nmIn x (l.take (i + 1)) = (nmIn x (l.take i) || decide (f.n = x)) := fun x => by rw [ht, nmIn_app]
  refine br_if (fun k => ?_) (fun a1 => ?_)
  · rw [k] at no go nx
    refine br_intro (fun b => no (by simp [b])) (fun b => br_dec (by omega) ⟨by omega, br_intro (fun c => no (by simp at c; simp [c])) (fun c => br_dec (by omega) ⟨⟨⟨f.v, r.s, r.a, r.p⟩, i + 1⟩, ⟨by simp only; omega, go _ (by simp at c; simp [b, c]) (by unfold setP; rw [if_pos k])⟩, by simp only; omega, rfl, rfl, rfl, rfl, rfl, ?_, ?_, ?_, ?_⟩)⟩)
    all_goals (simp only [nx]; simp; try exact fun h => absurd h (by decide))
  refine br_if (fun k => ?_) (fun a2 => ?_)
  · rw [k] at no go nx
    refine br_intro (fun b => no (by simp [b])) (fun b => br_dec (by omega) ⟨by omega, br_intro (fun c => no (by simp at c; simp [c])) (fun c => br_dec (by omega) ⟨⟨⟨r.m, f.v, r.a, r.p⟩, i + 1⟩, ⟨by simp only; omega, go _ (by simp at c; simp [b, c]) (by unfold setP; rw [if_neg a1, if_pos k])⟩, by simp only; omega, rfl, rfl, rfl, rfl, rfl, ?_, ?_, ?_, ?_⟩)⟩)
    all_goals (simp only [nx]; simp; try exact fun h => absurd h (by decide))
  refine br_if (fun k => ?_) (fun a3 => ?_)
  · rw [k] at no go nx
    refine br_intro (fun b => no (by simp [b])) (fun b => br_dec (by omega) ⟨by omega, br_intro (fun c => no (by simp at c; simp [c])) (fun c => br_dec (by omega) ⟨⟨⟨r.m, r.s, f.v, r.p⟩, i + 1⟩, ⟨by simp only; omega, go _ (by simp at c; simp [b, c]) (by unfold setP; rw [if_neg a1, if_neg a2, if_pos k])⟩, by simp only; omega, rfl, rfl, rfl, rfl, rfl, ?_, ?_, ?_, ?_⟩)⟩)
    all_goals (simp only [nx]; simp; try exact fun h => absurd h (by decide))
  refine br_if (fun k => ?_) (fun a4 => ?_)
  · rw [k] at no go nx
    refine br_intro (fun b => no (by simp [b])) (fun b => br_dec (by omega) ⟨by omega, br_intro (fun c => no (by simp at c; simp [c])) (fun c => br_dec (by omega) ⟨⟨⟨r.m, r.s, r.a, f.v⟩, i + 1⟩, ⟨by simp only; omega, go _ (by simp at c; simp [b, c]) (by unfold setP; rw [if_neg a1, if_neg a2, if_neg a3, if_pos k])⟩, by simp only; omega, rfl, rfl, rfl, rfl, rfl, ?_, ?_, ?_, ?_⟩)⟩)
    all_goals (simp only [nx]; simp; try exact fun h => absurd h (by decide))
  refine ⟨rq0, ?_⟩
  rw [h2]
  have e : setP r f = none := by unfold setP; rw [if_neg a1, if_neg a2, if_neg a3, if_neg a4]
  rw [e]; simp
theorem col_no (n : List UInt8) (h : colB n = true) : tokL n = false := by
  cases n with
  | nil => rfl
  | cons c r =>
    have : c = 58 := by simpa [colB] using h
    subst this
    unfold tokL allTk
    rw [List.all_cons, show tokN (58 : UInt8).toNat = false from by decide]; rfl
theorem bare_no (l : List Fl) (h : baB l = false) : plL (l.drop (psN l)) = false := by
  unfold baB noCol at h
  rw [List.all_eq_false] at h
  obtain ⟨f, hf, hc⟩ := h
  unfold plL
  rw [List.all_eq_false]
  refine ⟨f, hf, ?_⟩
  have : colB f.n = true := by simpa using hc
  unfold plF; rw [col_no _ this]; simp
theorem rqG_sch : ∀ (l done : List Fl) (r y : RqP), rqG done r l = some y → (nmIn sSch l = false → y.s = r.s) ∧ (nmIn sPat l = false → y.p = r.p)
  | [], done, r, y, h => by simp [rqG] at h; subst h; exact ⟨fun _ => rfl, fun _ => rfl⟩
  | f :: l, done, r, y, h => by
    rw [rqG] at h
    split at h
    · split at h
      · simp at h
      · rename_i r' hr'
        obtain ⟨i1, i2⟩ := rqG_sch l _ r' y h
        have hn : ∀ x, nmIn x (f :: l) = (decide (f.n = x) || nmIn x l) := fun x => by unfold nmIn; rw [List.any_cons]
        unfold setP at hr'
        refine ⟨fun hx => ?_, fun hx => ?_⟩
        · rw [hn] at hx; simp at hx
          rw [i1 hx.2]
          split at hr'
          · simp at hr'; subst hr'; rfl
          · rw [if_neg hx.1] at hr'
            split at hr'
            · simp at hr'; subst hr'; rfl
            · split at hr'
              · simp at hr'; subst hr'; rfl
              · simp at hr'
        · rw [hn] at hx; simp at hx
          rw [i2 hx.2]
          split at hr'
          · simp at hr'; subst hr'; rfl
          · split at hr'
            · simp at hr'; subst hr'; rfl
            · split at hr'
              · simp at hr'; subst hr'; rfl
              · rw [if_neg hx.1] at hr'; simp at hr'
    · simp at h
set_option maxHeartbeats 4000000 in
theorem Rr_con (l : List Fl) (h1 : l.length ≤ 16777000) (h2 : ShortF l) : Con Try.prog 15 [.slice (some ⟨0, 0, none⟩) l.length 2] [gRo enF l] (.tuple #[.agg ⟨[.string (bs (rqZ (rqL l)).r.m), .string (bs (rqZ (rqL l)).r.s), .string (bs (rqZ (rqL l)).r.a), .string (bs (rqZ (rqL l)).r.p), .slice (some ⟨1, 0, none⟩) (rqZ (rqL l)).f.length 2, .int .i64 (rqZ (rqL l)).k]⟩, .bool (rqL l).isSome]) [gRo enF l, gOwn enF (rqZ (rqL l)).f] := by
  refine con_vc (E := EtRr) mixed (calls_envT tRr_ok) (lok_envT _ _) (M := mRr) (lm_one Rr_piece) (Rr_vc l _ (rqZ (rqL l)).r _ _) ?_
  have hm : maxLen = 9223372036854775807 := by unfold maxLen; rfl
  have hp := psN_le l
  have q0 : (⟨#[]⟩ : ByteArray) = bs [] := rfl
  have z : rqL l = none → (bs (rqZ (rqL l)).r.m = bs [] ∧ bs (rqZ (rqL l)).r.s = bs [] ∧ bs (rqZ (rqL l)).r.a = bs [] ∧ bs (rqZ (rqL l)).r.p = bs [] ∧ (rqZ (rqL l)).f.length = 0 ∧ (rqZ (rqL l)).k = 0 ∧ (rqL l).isSome = false ∧ gC enF (rqZ (rqL l)).f = []) := fun e => by rw [e]; exact ⟨rfl, rfl, rfl, rfl, rfl, rfl, rfl, rfl⟩
  simp only [ofNat_eq, toNat_cast, Nat.zero_add, Nat.add_zero, Nat.mul_one, List.drop_zero, bCells_len, bCells_drop, bCells_take, bCells_app, bCells_one, bCells_plain, List.length_replicate, List.length_append, List.length_take, List.length_drop, List.take_length, and_true, true_and, and_self, decide_true, List.length_nil, List.length_cons, Nat.sub_zero, dB_mk, dB_ro, List.take_zero, fPl, bs_dd, n_ps, n_ba, isF_eq, q0, fTake]
  have r1 : (⟨#[67, 79, 78, 78, 69, 67, 84]⟩ : ByteArray) = bs sCNCT := rfl
  have r3 : (⟨#[104, 116, 116, 112]⟩ : ByteArray) = bs sHttp := rfl
  have r4 : (⟨#[104, 116, 116, 112, 115]⟩ : ByteArray) = bs sHttps := rfl
  have r5 : (⟨#[79, 80, 84, 73, 79, 78, 83]⟩ : ByteArray) = bs sOPT := rfl
  have r6 : (⟨#[42]⟩ : ByteArray) = bs [42] := rfl
  have p2 : ([58, 115, 99, 104, 101, 109, 101] : List UInt8) = sSch := rfl
  have p4 : ([58, 112, 97, 116, 104] : List UInt8) = sPat := rfl
  refine ⟨⟨by rw [fLen]; omega, by omega⟩, br_intro (fun k => z ?_) (fun k0 => ⟨l, ⟨h1, h2⟩, rfl, rfl, rfl, rfl, rfl, rfl, rfl, rfl, rfl, rfl, rfl, br_side (fun y hy => ?_) (fun y hy => ?_)⟩)⟩
  · have hb := bare_no l (by simpa using k)
    unfold rqL
    split
    · rfl
    · rw [hb]; rfl
  rotate_left
  · have e : rqL l = none := by unfold rqL; rw [hy]
    obtain ⟨z1, z2, z3, z4, z5, z6, z7, z8⟩ := z e
    exact ⟨z1, z2, z3, z4, z5, z6, z7, rfl, z8⟩
  obtain ⟨s1, s2⟩ := rqG_short _ _ _ _ (sh_take h2 (psN l)) ⟨Nat.zero_le _, Nat.zero_le _⟩ hy
  obtain ⟨t1, t2⟩ := rqG_sch _ _ _ _ hy
  have hr : rqL l = if plL (l.drop (psN l)) && (!decide (lenL (l.drop (psN l)) = -2) && cpB y) then some ⟨y, lenL (l.drop (psN l)), l.drop (psN l)⟩ else none := by unfold rqL; rw [hy]
  have hdl : (l.drop (psN l)).length = l.length - psN l := List.length_drop
  have hsd := sh_drop h2 (psN l)
  have z2 : (plL (l.drop (psN l)) && (!decide (lenL (l.drop (psN l)) = -2) && cpB y)) = false → (bs (rqZ (rqL l)).r.m = bs [] ∧ bs (rqZ (rqL l)).r.s = bs [] ∧ bs (rqZ (rqL l)).r.a = bs [] ∧ bs (rqZ (rqL l)).r.p = bs [] ∧ (rqZ (rqL l)).f.length = 0 ∧ (rqZ (rqL l)).k = 0 ∧ (rqL l).isSome = false ∧ gC enF (rqZ (rqL l)).f = []) := fun h => z (by rw [hr, h]; rfl)
  have key : cpB y = (tokL y.m && (!decide (y.m = sCNCT) && (!decide (y.a = []) && ((decide (y.s = sHttp) || decide (y.s = sHttps)) && ((decide (y.m = sOPT) && decide (y.p = [42])) || slB y.p))))) := rfl
  have bnd : (0 : Int) ≤ (psN l : Int) ∧ (psN l : Int) ≤ (l.length : Int) ∧ (l.length : Int) ≤ (l.length : Int) := ⟨by omega, by omega, by omega⟩
  simp only [dpN, tkD, gPl, isF_drop, n_sh, n_pl, n_rlB, n_rlK, fLen, fPl, oneN, true_and, and_true, L_bse, r1, r3, r4, r5, r6, p2, p4, strEq_bs, tokS_bs]
  have yes : (plL (l.drop (psN l)) && (!decide (lenL (l.drop (psN l)) = -2) && cpB y)) = true → (bs (rqZ (rqL l)).r.m = bs y.m ∧ bs (rqZ (rqL l)).r.s = bs y.s ∧ bs (rqZ (rqL l)).r.a = bs y.a ∧ bs (rqZ (rqL l)).r.p = bs y.p ∧ (rqZ (rqL l)).f.length = l.length - psN l ∧ (rqZ (rqL l)).k = (if lenL (l.drop (psN l)) = -2 then -1 else lenL (l.drop (psN l))) ∧ (rqL l).isSome = true ∧ gC enF (rqZ (rqL l)).f = gC enF (l.drop (psN l))) := fun h => by
    have hl : lenL (l.drop (psN l)) ≠ -2 := fun e => by rw [e] at h; simp at h
    rw [hr, if_pos h, if_neg hl]
    exact ⟨rfl, rfl, rfl, rfl, hdl, rfl, rfl, rfl⟩
  generalize plL (l.drop (psN l)) = B1 at *
  generalize lenL (l.drop (psN l)) = B2 at *
  have b0 : ∀ h : y.p ≠ [], (byteAt (bs y.p) 0 != 47) = !slB y.p ∧ (0 : Int) ≤ 0 ∧ (0 : Int) < (y.p.length : Nat) := by
    intro h
    cases hyp : y.p with
    | nil => exact absurd hyp h
    | cons c r =>
      rw [byteAt_bs (l := c :: r) (i := 0) (by simp)]
      refine ⟨?_, Int.le_refl _, by rw [List.length_cons]; omega⟩
      simp only [List.getElem_cons_zero, slB, bne]
      congr 1
      rw [Bool.eq_iff_iff, beq_iff_eq, beq_iff_eq]
      exact u8_nat (n := 47) (by omega)
  have ns : nmIn sSch (l.take (psN l)) = false → (decide (y.s = sHttp) || decide (y.s = sHttps)) = false := fun h => by rw [t1 h]; decide
  have np : nmIn sPat (l.take (psN l)) = false → slB y.p = false ∧ y.p ≠ [42] := fun h => by rw [t2 h]; decide
  refine br_dec bnd ⟨⟨by omega, by omega, hsd⟩, ⟨by omega, by omega, hsd⟩, br_intro (fun k => z2 ?_) (fun k1 => br_intro (fun k => z2 ?_) (fun k2 => ⟨by omega, br_intro (fun k => z2 ?_) (fun k3 => br_intro (fun k => z2 ?_) (fun k4 => br_intro (fun k => z2 ?_) (fun k5 => br_intro (fun k => z2 ?_) (fun k6 => ?_))))⟩))⟩
  · simp at k; simp [k]
  · simp at k; simp [k]
  · rw [key]; simp at k; simp [k]
  · rw [key]; simp at k; simp [k]
  · rw [key, ns (by simpa using k)]; simp
  · obtain ⟨a1, a2⟩ := np (by simpa using k)
    rw [key, a1, decide_eq_false a2]; simp
  refine br_intro (fun k7 => br_intro (fun k => z2 ?_) (fun k8 => ?_)) (fun k7 => ?_)
  · rw [key]; simp at k7 k; simp [k7, k]
  all_goals refine br_intro (fun k => z2 ?_) (fun k9 => br_intro (fun k => z2 ?_) (fun k10 => br_dec (b0 (by simpa using k10)).2 (br_intro (fun k11 => br_intro (fun k12 => br_intro (fun k => z2 ?_) (fun k13 => br_dec (by omega) (br_b rfl (br_dec (by omega) (br_dec (.inr rfl) ?_))))) (fun k => z2 ?_)) (fun k11 => br_dec (by omega) (br_b rfl (br_dec (by omega) (br_dec (.inr rfl) ?_)))))))
  all_goals (try rw [List.nil_append])
  all_goals (try refine yes ?_)
  all_goals (try rw [(b0 (by simpa using k10)).1] at k11)
  all_goals (clear yes z2 z b0 ns np hr t1 t2; rw [key])
  all_goals simp_all [slB]
theorem sec_three {l : List UInt8} (h : l.length = 3) : secL l = (match digL l 3 3 with | none => -1 | some m => (m : Int)) := by
  have := sec_nine (l := l) (by omega)
  rw [this]
  unfold digL
  rw [if_pos ⟨by omega, by omega⟩, if_pos ⟨by omega, by omega⟩]
  cases digF l 0 <;> rfl
theorem pl_col (r : List Fl) (h : plL r = true) : ∀ f ∈ r, colB f.n = false := fun f hf => by
  have := List.all_eq_true.1 h f hf
  cases hc : colB f.n with
  | false => rfl
  | true => unfold plF at this; rw [col_no _ hc] at this; simp at this
theorem rs_some {l : List Fl} (h : rsL l ≠ none) : psN l = 1 ∧ baB l = true := by
  cases l with
  | nil => exact absurd rfl h
  | cons f r =>
    have hr : rsL (f :: r) = if f.n = sSta then (match digL f.v 3 3 with
      | none => none
      | some s => if stOk s && (plL r && !decide (lenL r = -2)) then some ⟨s, lenL r, r⟩ else none) else none := rfl
    by_cases hn : f.n = sSta
    rotate_left
    · exact absurd (by rw [hr, if_neg hn]) h
    have hpl : plL r = true := by
      cases hp : plL r with
      | true => rfl
      | false =>
        refine absurd ?_ h
        rw [hr, if_pos hn, hp]
        cases digL f.v 3 3 <;> simp
    have hc := pl_col r hpl
    have h1 : psN (f :: r) = 1 := by
      unfold psN
      rw [List.takeWhile_cons, if_pos (by rw [hn]; rfl)]
      cases r with
      | nil => rfl
      | cons g r => rw [List.takeWhile_cons, if_neg (by rw [hc g (by simp)]; simp)]; rfl
    refine ⟨h1, ?_⟩
    unfold baB noCol
    rw [h1, List.all_eq_true]
    intro x hx
    simp at hx
    rw [hc x hx]; rfl
theorem Rp_con (l : List Fl) (h1 : l.length ≤ 16777000) (h2 : ShortF l) : Con Try.prog 16 [.slice (some ⟨0, 0, none⟩) l.length 2] [gRo enF l] (.tuple #[.agg ⟨[.int .i64 (rsZ (rsL l)).st, .slice (some ⟨1, 0, none⟩) (rsZ (rsL l)).f.length 2, .int .i64 (rsZ (rsL l)).k]⟩, .bool (rsL l).isSome]) [gRo enF l, gOwn enF (rsZ (rsL l)).f] := by
  refine con_vc (E := EtRp) mixed (calls_envT tRp_ok) (lok_envT _ _) (M := noM) lm_none (Rp_vc l _ _ _ _) ?_
  have hm : maxLen = 9223372036854775807 := by unfold maxLen; rfl
  have hp := psN_le l
  have q0 : (⟨#[]⟩ : ByteArray) = bs [] := rfl
  have z : rsL l = none → ((rsZ (rsL l)).st = 0 ∧ (rsZ (rsL l)).f.length = 0 ∧ (rsZ (rsL l)).k = 0 ∧ (rsL l).isSome = false ∧ gC enF (rsZ (rsL l)).f = []) := fun h => by rw [h]; exact ⟨rfl, rfl, rfl, rfl, rfl⟩
  simp only [ofNat_eq, toNat_cast, Nat.zero_add, Nat.add_zero, Nat.mul_one, List.drop_zero, bCells_len, bCells_drop, bCells_take, bCells_app, bCells_one, bCells_plain, List.length_replicate, List.length_append, List.length_take, List.length_drop, List.take_length, and_true, true_and, and_self, decide_true, List.length_nil, List.length_cons, Nat.sub_zero, dB_mk, dB_ro, List.take_zero, fPl, bs_dd, n_ps, n_ba, isF_eq, q0, fTake]
  have z1 : ¬ (psN l = 1 ∧ baB l = true) → rsL l = none := fun h => by
    cases he : rsL l with
    | none => rfl
    | some o => exact absurd (rs_some (by rw [he]; simp)) h
  refine ⟨⟨by rw [fLen]; omega, by omega⟩, br_intro (fun k => z (z1 (fun h => by rw [h.2] at k; simp at k))) (fun k0 => br_intro (fun k => z (z1 (fun h => by rw [h.1] at k; simp at k))) (fun k1 => ?_))⟩
  cases l with
  | nil => simp [psN] at k1
  | cons f l =>
  have q1 : (⟨#[58, 115, 116, 97, 116, 117, 115]⟩ : ByteArray) = bs sSta := rfl
  obtain ⟨c1, c2, c3, c4⟩ := fGet (f :: l) 0 (by simp)
  simp only [Nat.zero_mul, Nat.zero_add, List.getElem_cons_zero] at c1 c2 c3 c4
  have d1 : secS (bs f.v) = secL f.v := rfl
  have hf := h2 f (by simp)
  have hs : ShortF l := fun x hx => h2 x (by simp [hx])
  have hdl : List.drop 2 (gC enF (f :: l)) = gC enF l := rfl
  have htl : List.take (((f :: l).length - 1) * 2) (gC enF l) = gC enF l := List.take_of_length_le (by rw [fLen]; simp)
  have il : IsF ⟨gC enF l, true, .cells true⟩ ((f :: l).length - 1) = True := eq_true (isF_mk _ _ (by simp))
  have hlen : (f :: l).length = l.length + 1 := List.length_cons
  have hr : rsL (f :: l) = if f.n = sSta then (match digL f.v 3 3 with
    | none => none
    | some s => if stOk s && (plL l && !decide (lenL l = -2)) then some ⟨s, lenL l, l⟩ else none) else none := rfl
  have so : ∀ s, stOk s = (decide (100 ≤ s) && (decide (s ≤ 599) && !decide (s = 101))) := fun s => rfl
  simp only [c1, c2, c3, c4, q1, strEq_bs, bs_dd, L_bse, d1, hdl, htl, il, n_sh, n_pl, n_rlB, n_rlK, fPl, fLen, oneN, true_and, and_true, List.nil_append]
  have bnd : (0 : Int) ≤ 1 ∧ (1 : Int) ≤ ((f :: l).length : Int) ∧ (((f :: l).length : Nat) : Int) ≤ ((f :: l).length : Int) := ⟨by omega, by omega, by omega⟩
  have yes : ∀ m : Nat, f.n = sSta → digL f.v 3 3 = some m → (stOk m && (plL l && !decide (lenL l = -2))) = true → ((rsZ (rsL (f :: l))).st = (m : Int) ∧ (rsZ (rsL (f :: l))).f.length = (f :: l).length - 1 ∧ (rsZ (rsL (f :: l))).k = (if lenL l = -2 then -1 else lenL l) ∧ (rsL (f :: l)).isSome = true ∧ gC enF (rsZ (rsL (f :: l))).f = gC enF l) := fun m h1 h2 h3 => by
    have hl : lenL l ≠ -2 := fun e => by rw [e] at h3; simp at h3
    rw [if_pos h1, h2] at hr
    simp only [h3, if_true] at hr
    rw [hr, if_neg hl]
    exact ⟨rfl, by simp [rsZ], rfl, rfl, rfl⟩
  have no : ∀ m : Nat, f.n = sSta → digL f.v 3 3 = some m → (stOk m && (plL l && !decide (lenL l = -2))) = false → rsL (f :: l) = none := fun m h1 h2 h3 => by
    rw [if_pos h1, h2] at hr
    simp only [h3] at hr
    rw [hr]; rfl
  generalize lenL l = B2 at *
  generalize plL l = B1 at *
  refine br_dec (by omega) (br_intro (fun k => z ?_) (fun k2 => br_dec (by omega) (br_intro (fun k => z ?_) (fun k3 => br_dec (by omega) ⟨by omega, br_dec bnd ⟨⟨by omega, by omega, hs⟩, ?_⟩⟩))))
  · rw [hr, if_neg (by simpa using k)]
  · have hd : digL f.v 3 3 = none := by unfold digL; rw [if_neg (by simp at k; omega)]
    rw [hr, hd]; simp
  have k2 : f.n = sSta := by simpa using k2
  have hl3 : f.v.length = 3 := by simp at k3; omega
  have h3 := sec_three hl3
  cases hd : digL f.v 3 3 with
  | none =>
    rw [hd] at h3
    simp only at h3
    exact br_dec (by omega) (z (by rw [hr, hd]; simp))
  | some m =>
  rw [hd] at h3
  simp only at h3
  rw [h3]
  refine br_if (fun k => z (no m k2 hd ?_)) (fun k4 => br_if (fun k => z (no m k2 hd ?_)) (fun k5 => br_intro (fun k => z (no m k2 hd ?_)) (fun k6 => ⟨⟨by omega, by omega, hs⟩, br_intro (fun k => z (no m k2 hd ?_)) (fun k7 => br_intro (fun k => z (no m k2 hd ?_)) (fun k8 => br_dec (by omega) (br_b rfl (br_dec (by omega) (br_dec (.inr rfl) (yes m k2 hd ?_))))))⟩)))
  · rw [so, decide_eq_false (by omega)]; rfl
  · rw [so, show decide (m ≤ 599) = false from decide_eq_false (by omega)]; simp
  · have k : (m : Int) = 101 := by simpa using k
    rw [so, show decide (m = 101) = true from decide_eq_true (by omega)]; simp
  · simp at k; simp [k]
  · simp at k; simp [k]
  · have k6 : ¬ (m : Int) = 101 := by simpa using k6
    rw [so, decide_eq_true (by omega), decide_eq_true (by omega), decide_eq_false (by omega)]
    simp at k7 k8; simp [k7, k8]
theorem eRr_ok : EntOk Try.prog eRr := entC_ok (by
  intro a rows p v news h hp
  split at h <;> simp only [Option.some.injEq, Prod.mk.injEq, reduceCtorEq] at h
  obtain ⟨rfl, rfl, rfl⟩ := h
  obtain ⟨⟨l, rfl, rfl⟩, h1, h2⟩ := hp
  simp only [rqM, rqS, rqA, rqP, rqN, rqK, rqB, rqC, ShR, dF] at h2 ⊢
  exact Rr_con l h1 h2)
theorem eRp_ok : EntOk Try.prog eRp := entC_ok (by
  intro a rows p v news h hp
  split at h <;> simp only [Option.some.injEq, Prod.mk.injEq, reduceCtorEq] at h
  obtain ⟨rfl, rfl, rfl⟩ := h
  obtain ⟨⟨l, rfl, rfl⟩, h1, h2⟩ := hp
  simp only [rsS, rsN, rsK, rsB, rsC, ShR, dF] at h2 ⊢
  exact Rp_con l h1 h2)
end Go.Proofs.Yteodlmfnkjdhhaa.tk
