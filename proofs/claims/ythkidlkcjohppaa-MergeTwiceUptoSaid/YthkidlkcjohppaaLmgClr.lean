/- Does a response clear what is stored? -/
import Derived.Test.YthkidlkcjohppaaSz9
import Derived.Test.YthkidlkcjohppaaRows
import Derived.Test.YthkidlkcjohppaaLmgSame
set_option linter.unusedSimpArgs false
set_option linter.unusedVariables false
namespace Go.Proofs.Ythkidlkcjohppaa.tk
open Go Go.Ev Go.Sy Go.RowKit Go.Proofs.Ythkidlkcjohppaa.gl
def bGET : ByteArray := ⟨#[71, 69, 84]⟩
def bHEAD : ByteArray := ⟨#[72, 69, 65, 68]⟩
def bOPT : ByteArray := ⟨#[79, 80, 84, 73, 79, 78, 83]⟩
def bTRACE : ByteArray := ⟨#[84, 82, 65, 67, 69]⟩
def clB (m : ByteArray) (st : Int) : Bool := !(strEq m bGET || strEq m bHEAD || strEq m bOPT || strEq m bTRACE) && (decide (st ≥ 200) && decide (st ≤ 399))
theorem cl_vc (y : RqY) (st k : Int) (q s : List Fl) (v : Bool) : mcall E0 noM 60 13 [.agg ⟨rqCy y 0 q.length⟩, .agg ⟨[.int .i64 st, .slice (some ⟨1, 0, none⟩) s.length 2, .int .i64 k]⟩] ⟨mkR (nums 0 [gRo enF q, gRo enF s]), 2⟩ (retIs 2 (.bool v) [gRo enF q, gRo enF s]) =
  (br (strEq y.1 (ByteArray.mk #[(71 : UInt8), (69 : UInt8), (84 : UInt8)]))
   ((v = false) ∧
   ((Eq (α := List Value) (gC enF q) (gC enF q)) ∧
   ((Plain (gC enF q)) ∧
   ((Eq (α := List Value) (gC enF s) (gC enF s)) ∧
   ((Plain (gC enF s)) ∧
   True)))))
   (br (strEq y.1 (ByteArray.mk #[(72 : UInt8), (69 : UInt8), (65 : UInt8), (68 : UInt8)]))
    ((v = false) ∧
    ((Eq (α := List Value) (gC enF q) (gC enF q)) ∧
    ((Plain (gC enF q)) ∧
    ((Eq (α := List Value) (gC enF s) (gC enF s)) ∧
    ((Plain (gC enF s)) ∧
    True)))))
    (br (strEq y.1 (ByteArray.mk #[(79 : UInt8), (80 : UInt8), (84 : UInt8), (73 : UInt8), (79 : UInt8), (78 : UInt8), (83 : UInt8)]))
     ((v = false) ∧
     ((Eq (α := List Value) (gC enF q) (gC enF q)) ∧
     ((Plain (gC enF q)) ∧
     ((Eq (α := List Value) (gC enF s) (gC enF s)) ∧
     ((Plain (gC enF s)) ∧
     True)))))
     (br (strEq y.1 (ByteArray.mk #[(84 : UInt8), (82 : UInt8), (65 : UInt8), (67 : UInt8), (69 : UInt8)]))
      ((v = false) ∧
      ((Eq (α := List Value) (gC enF q) (gC enF q)) ∧
      ((Plain (gC enF q)) ∧
      ((Eq (α := List Value) (gC enF s) (gC enF s)) ∧
      ((Plain (gC enF s)) ∧
      True)))))
      (br (decide (st ≥ (200 : Int)))
       ((v = decide (st ≤ (399 : Int))) ∧
       ((Eq (α := List Value) (gC enF q) (gC enF q)) ∧
       ((Plain (gC enF q)) ∧
       ((Eq (α := List Value) (gC enF s) (gC enF s)) ∧
       ((Plain (gC enF s)) ∧
       True)))))
       ((v = false) ∧
       ((Eq (α := List Value) (gC enF q) (gC enF q)) ∧
       ((Plain (gC enF q)) ∧
       ((Eq (α := List Value) (gC enF s) (gC enF s)) ∧
       ((Plain (gC enF s)) ∧
       True)))))))))) := by kernel_rfl
theorem cl2_vc (y : RqY) (st k : Int) (q s : List Fl) (v : Bool) : mcall E0 noM 60 22 [.agg ⟨rqCy y 0 q.length⟩, .agg ⟨[.int .i64 st, .slice (some ⟨1, 0, none⟩) s.length 2, .int .i64 k]⟩] ⟨mkR (nums 0 [gRo enF q, gRo enF s]), 2⟩ (retIs 2 (.bool v) [gRo enF q, gRo enF s]) =
  (br (strEq y.1 (ByteArray.mk #[(71 : UInt8), (69 : UInt8), (84 : UInt8)]))
   ((v = false) ∧
   ((Eq (α := List Value) (gC enF q) (gC enF q)) ∧
   ((Plain (gC enF q)) ∧
   ((Eq (α := List Value) (gC enF s) (gC enF s)) ∧
   ((Plain (gC enF s)) ∧
   True)))))
   (br (strEq y.1 (ByteArray.mk #[(72 : UInt8), (69 : UInt8), (65 : UInt8), (68 : UInt8)]))
    ((v = false) ∧
    ((Eq (α := List Value) (gC enF q) (gC enF q)) ∧
    ((Plain (gC enF q)) ∧
    ((Eq (α := List Value) (gC enF s) (gC enF s)) ∧
    ((Plain (gC enF s)) ∧
    True)))))
    (br (strEq y.1 (ByteArray.mk #[(79 : UInt8), (80 : UInt8), (84 : UInt8), (73 : UInt8), (79 : UInt8), (78 : UInt8), (83 : UInt8)]))
     ((v = false) ∧
     ((Eq (α := List Value) (gC enF q) (gC enF q)) ∧
     ((Plain (gC enF q)) ∧
     ((Eq (α := List Value) (gC enF s) (gC enF s)) ∧
     ((Plain (gC enF s)) ∧
     True)))))
     (br (strEq y.1 (ByteArray.mk #[(84 : UInt8), (82 : UInt8), (65 : UInt8), (67 : UInt8), (69 : UInt8)]))
      ((v = false) ∧
      ((Eq (α := List Value) (gC enF q) (gC enF q)) ∧
      ((Plain (gC enF q)) ∧
      ((Eq (α := List Value) (gC enF s) (gC enF s)) ∧
      ((Plain (gC enF s)) ∧
      True)))))
      (br (decide (st ≥ (200 : Int)))
       ((v = decide (st < (400 : Int))) ∧
       ((Eq (α := List Value) (gC enF q) (gC enF q)) ∧
       ((Plain (gC enF q)) ∧
       ((Eq (α := List Value) (gC enF s) (gC enF s)) ∧
       ((Plain (gC enF s)) ∧
       True)))))
       ((v = false) ∧
       ((Eq (α := List Value) (gC enF q) (gC enF q)) ∧
       ((Plain (gC enF q)) ∧
       ((Eq (α := List Value) (gC enF s) (gC enF s)) ∧
       ((Plain (gC enF s)) ∧
       True)))))))))) := by kernel_rfl
theorem cl_con (y : RqY) (st k : Int) (q s : List Fl) : Con Try.prog 13 [.agg ⟨rqCy y 0 q.length⟩, .agg ⟨[.int .i64 st, .slice (some ⟨1, 0, none⟩) s.length 2, .int .i64 k]⟩] [gRo enF q, gRo enF s] (.bool (clB y.m st)) [gRo enF q, gRo enF s] := by
  refine con_vc (E := E0) mixed (calls_envN _) (lok_envN _) (M := noM) lm_none (cl_vc y st k q s _) ?_
  simp only [ofNat_eq, toNat_cast, Nat.zero_add, Nat.add_zero, Nat.mul_one, List.drop_zero, bCells_len, bCells_drop, bCells_take, bCells_app, bCells_one, bCells_plain, List.length_replicate, List.length_append, List.length_take, List.length_drop, List.take_length, and_true, true_and, and_self, decide_true, List.length_nil, List.length_cons, Nat.sub_zero, dB_mk, dB_ro, List.take_zero, fPl]
  unfold clB
  repeat' refine br_intro (fun _ => ?_) (fun _ => ?_)
  all_goals simp_all [bGET, bHEAD, bOPT, bTRACE]
  all_goals (try omega)
theorem cl2_con (y : RqY) (st k : Int) (q s : List Fl) : Con Try.prog 22 [.agg ⟨rqCy y 0 q.length⟩, .agg ⟨[.int .i64 st, .slice (some ⟨1, 0, none⟩) s.length 2, .int .i64 k]⟩] [gRo enF q, gRo enF s] (.bool (clB y.m st)) [gRo enF q, gRo enF s] := by
  refine con_vc (E := E0) mixed (calls_envN _) (lok_envN _) (M := noM) lm_none (cl2_vc y st k q s _) ?_
  simp only [ofNat_eq, toNat_cast, Nat.zero_add, Nat.add_zero, Nat.mul_one, List.drop_zero, bCells_len, bCells_drop, bCells_take, bCells_app, bCells_one, bCells_plain, List.length_replicate, List.length_append, List.length_take, List.length_drop, List.take_length, and_true, true_and, and_self, decide_true, List.length_nil, List.length_cons, Nat.sub_zero, dB_mk, dB_ro, List.take_zero, fPl]
  unfold clB
  repeat' refine br_intro (fun _ => ?_) (fun _ => ?_)
  all_goals simp_all [bGET, bHEAD, bOPT, bTRACE]
  all_goals (try omega)
end Go.Proofs.Ythkidlkcjohppaa.tk
