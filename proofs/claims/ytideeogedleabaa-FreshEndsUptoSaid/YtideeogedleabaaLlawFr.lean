/- The laws: ages grow; numbers end. -/
import Derived.Test.YtideeogedleabaaSz9
import Derived.Test.YtideeogedleabaaRows
import Derived.Test.YtideeogedleabaaLfrB
import Derived.Test.YtideeogedleabaaLlgtK
import Derived.Test.YtideeogedleabaaLwit
set_option maxRecDepth 20000
set_option linter.unusedSimpArgs false
set_option linter.unusedVariables false
namespace Go.Proofs.Ytideeogedleabaa.tk
open Go Go.Ev Go.Sy Go.RowKit Go.Proofs.Ytideeogedleabaa.gl
noncomputable def eLgF : EntM := entC 30 fun a r => match a, r with
  | [.slice (some ⟨0, 0, none⟩) n 2], [r0] => some (IsF r0 n ∧ n ≤ 1048576 ∧ ShR r0, .bool (lgR r0), [])
  | _, _ => none
noncomputable def eWi : EntM := entC 19 fun a r => match a, r with
  | [.int .i64 n, .int .i64 lo, .int .i64 hi], [] => some (I64 n ∧ -1000000000000 ≤ lo ∧ hi ≤ 1000000000000 ∧ lo ≤ hi, .int .i64 (inside n lo hi), [])
  | _, _ => none
noncomputable def eRuns : EntM := entC 3 fun a r => match a, r with
  | [], [] => some (True, .bool true, [])
  | _, _ => none
def sMx : List UInt8 := [109, 97, 120, 45, 97, 103, 101, 61, 57, 57, 57, 57, 57, 57, 57, 57, 57, 57, 57, 57, 57, 57, 57, 57, 57, 57, 57, 57, 57, 57]
def s99 : List UInt8 := [57, 57, 57, 57, 57, 57, 57, 57, 57, 57, 57, 57, 57, 57, 57, 57, 57, 57, 57, 57]
def eF : List Fl := [⟨sCC, sMx⟩, ⟨sAgeN, s99⟩]
noncomputable def tFg : List EntM := [eLgF, eWi, eRuns, eLi, eAg]
noncomputable abbrev EtFg : Env := envT Try.prog tFg
theorem Gr_vc (x : En12) (d l : List Fl) (a b : Int) (sh : Nat) : mcall EtFg noM 60 5 [.agg ⟨enT x 0 d.length 1 l.length⟩, .int .i64 a, .int .i64 b, .float .f64 sh] ⟨mkR (nums 0 [gRo enF d, gRo enF l]), 2⟩ (retIs 2 (.bool true) [gRo enF d, gRo enF l]) =
  ((((((0 : Nat) + List.length d * (2 : Nat) ≤ List.length (gC enF d) ∧ Plain (List.take (List.length d * (2 : Nat)) (List.drop (0 : Nat) (gC enF d)))) ∧ True) ∧ ((True ∧ True) ∧ (True ∧ (IsF (Row.mk (List.take (List.length d * (2 : Nat)) (List.drop (0 : Nat) (gC enF d))) true (Ob.cells true)) (List.length d) ∧ (List.length d ≤ (1048576 : Nat) ∧ ShR (Row.mk (List.take (List.length d * (2 : Nat)) (List.drop (0 : Nat) (gC enF d))) true (Ob.cells true)))))))) ∧
  (br (lgR (Row.mk (List.take (List.length d * (2 : Nat)) (List.drop (0 : Nat) (gC enF d))) true (Ob.cells true)))
   ((((((0 : Nat) + List.length l * (2 : Nat) ≤ List.length (gC enF l) ∧ Plain (List.take (List.length l * (2 : Nat)) (List.drop (0 : Nat) (gC enF l)))) ∧ True) ∧ ((True ∧ True) ∧ (True ∧ (IsF (Row.mk (List.take (List.length l * (2 : Nat)) (List.drop (0 : Nat) (gC enF l))) true (Ob.cells true)) (List.length l) ∧ (List.length l ≤ (1048576 : Nat) ∧ ShR (Row.mk (List.take (List.length l * (2 : Nat)) (List.drop (0 : Nat) (gC enF l))) true (Ob.cells true)))))))) ∧
   (br (lgR (Row.mk (List.take (List.length l * (2 : Nat)) (List.drop (0 : Nat) (gC enF l))) true (Ob.cells true)))
    (br (!decide (Int.ofNat (List.length x.8.1.1) ≤ (2000 : Int)))
     (((True ∧ (True ∧ (True ∧ True)))) ∧
     ((true = true) ∧
     ((Eq (α := List Value) (gC enF d) (gC enF d)) ∧
     ((Plain (gC enF d)) ∧
     ((Eq (α := List Value) (gC enF l) (gC enF l)) ∧
     ((Plain (gC enF l)) ∧
     True))))))
     ((((True ∧ (True ∧ (True ∧ True))) ∧ (True ∧ (True ∧ (I64 a ∧ ((-1000000000000 : Int) ≤ (0 : Int) ∧ ((2147483647 : Int) ≤ (1000000000000 : Int) ∧ (0 : Int) ≤ (2147483647 : Int)))))))) ∧
     ((((True ∧ (True ∧ (True ∧ True))) ∧ (True ∧ (True ∧ (I64 b ∧ ((-1000000000000 : Int) ≤ (0 : Int) ∧ ((2147483647 : Int) ≤ (1000000000000 : Int) ∧ (0 : Int) ≤ (2147483647 : Int)))))))) ∧
     (((((True ∧ (True ∧ (True ∧ (True ∧ (((0 : Nat) + List.length d * (2 : Nat) ≤ List.length (gC enF d) ∧ Plain (List.take (List.length d * (2 : Nat)) (List.drop (0 : Nat) (gC enF d)))) ∧ (True ∧ (True ∧ (((0 : Nat) + List.length l * (2 : Nat) ≤ List.length (gC enF l) ∧ Plain (List.take (List.length l * (2 : Nat)) (List.drop (0 : Nat) (gC enF l)))) ∧ (True ∧ (True ∧ (True ∧ (True ∧ True)))))))))))) ∧ (True ∧ True)) ∧ ((True ∧ (True ∧ True)) ∧ (True ∧ (IsF (Row.mk (List.take (List.length d * (2 : Nat)) (List.drop (0 : Nat) (gC enF d))) true (Ob.cells true)) (List.length d) ∧ (IsF (Row.mk (List.take (List.length l * (2 : Nat)) (List.drop (0 : Nat) (gC enF l))) true (Ob.cells true)) (List.length l) ∧ (List.length d ≤ (9223372036854775807 : Nat) ∧ (List.length l ≤ (9223372036854775807 : Nat) ∧ BgR (Row.mk (List.take (List.length l * (2 : Nat)) (List.drop (0 : Nat) (gC enF l))) true (Ob.cells true)))))))))) ∧
     (((((True ∧ (True ∧ (True ∧ (True ∧ (((0 : Nat) + List.length d * (2 : Nat) ≤ List.length (gC enF d) ∧ Plain (List.take (List.length d * (2 : Nat)) (List.drop (0 : Nat) (gC enF d)))) ∧ (True ∧ (True ∧ (((0 : Nat) + List.length l * (2 : Nat) ≤ List.length (gC enF l) ∧ Plain (List.take (List.length l * (2 : Nat)) (List.drop (0 : Nat) (gC enF l)))) ∧ (True ∧ (True ∧ (True ∧ (True ∧ True)))))))))))) ∧ (True ∧ True)) ∧ ((True ∧ (True ∧ True)) ∧ (True ∧ (IsF (Row.mk (List.take (List.length d * (2 : Nat)) (List.drop (0 : Nat) (gC enF d))) true (Ob.cells true)) (List.length d) ∧ (IsF (Row.mk (List.take (List.length l * (2 : Nat)) (List.drop (0 : Nat) (gC enF l))) true (Ob.cells true)) (List.length l) ∧ (List.length d ≤ (9223372036854775807 : Nat) ∧ (List.length l ≤ (9223372036854775807 : Nat) ∧ BgR (Row.mk (List.take (List.length l * (2 : Nat)) (List.drop (0 : Nat) (gC enF l))) true (Ob.cells true)))))))))) ∧
     ((Value.agg (Array.mk [Value.string x.1, Value.string x.2, Value.string x.3, Value.string x.4, Value.slice (some (Addr.mk (0 : Nat) (0 : Nat) none)) (List.length d) (2 : Nat), Value.int IntKind.i64 x.5, Value.int IntKind.i64 x.6, Value.slice (some (Addr.mk (1 : Nat) (0 : Nat) none)) (List.length l) (2 : Nat), Value.int IntKind.i64 x.7, Value.string x.8, Value.int IntKind.i64 x.9, Value.int IntKind.i64 x.10]) = Value.agg (Array.mk [Value.string x.1, Value.string x.2, Value.string x.3, Value.string x.4, Value.slice (some (Addr.mk (0 : Nat) (0 : Nat) none)) (List.length d) (2 : Nat), Value.int IntKind.i64 x.5, Value.int IntKind.i64 x.6, Value.slice (some (Addr.mk (1 : Nat) (0 : Nat) none)) (List.length l) (2 : Nat), Value.int IntKind.i64 x.7, Value.string x.8, Value.int IntKind.i64 x.9, Value.int IntKind.i64 x.10])) ∧
     ((Value.agg (Array.mk [Value.string x.1, Value.string x.2, Value.string x.3, Value.string x.4, Value.slice (some (Addr.mk (0 : Nat) (0 : Nat) none)) (List.length d) (2 : Nat), Value.int IntKind.i64 x.5, Value.int IntKind.i64 x.6, Value.slice (some (Addr.mk (1 : Nat) (0 : Nat) none)) (List.length l) (2 : Nat), Value.int IntKind.i64 x.7, Value.string x.8, Value.int IntKind.i64 x.9, Value.int IntKind.i64 x.10]) = Value.agg (Array.mk [Value.string x.1, Value.string x.2, Value.string x.3, Value.string x.4, Value.slice (some (Addr.mk (0 : Nat) (0 : Nat) none)) (List.length d) (2 : Nat), Value.int IntKind.i64 x.5, Value.int IntKind.i64 x.6, Value.slice (some (Addr.mk (1 : Nat) (0 : Nat) none)) (List.length l) (2 : Nat), Value.int IntKind.i64 x.7, Value.string x.8, Value.int IntKind.i64 x.9, Value.int IntKind.i64 x.10])) ∧
     ((Value.agg (Array.mk [Value.string x.1, Value.string x.2, Value.string x.3, Value.string x.4, Value.slice (some (Addr.mk (0 : Nat) (0 : Nat) none)) (List.length d) (2 : Nat), Value.int IntKind.i64 x.5, Value.int IntKind.i64 x.6, Value.slice (some (Addr.mk (1 : Nat) (0 : Nat) none)) (List.length l) (2 : Nat), Value.int IntKind.i64 x.7, Value.string x.8, Value.int IntKind.i64 x.9, Value.int IntKind.i64 x.10]) = Value.agg (Array.mk [Value.string x.1, Value.string x.2, Value.string x.3, Value.string x.4, Value.slice (some (Addr.mk (0 : Nat) (0 : Nat) none)) (List.length d) (2 : Nat), Value.int IntKind.i64 x.5, Value.int IntKind.i64 x.6, Value.slice (some (Addr.mk (1 : Nat) (0 : Nat) none)) (List.length l) (2 : Nat), Value.int IntKind.i64 x.7, Value.string x.8, Value.int IntKind.i64 x.9, Value.int IntKind.i64 x.10])) ∧
     (((((True ∧ (True ∧ (True ∧ (True ∧ (((0 : Nat) + List.length d * (2 : Nat) ≤ List.length (gC enF d) ∧ Plain (List.take (List.length d * (2 : Nat)) (List.drop (0 : Nat) (gC enF d)))) ∧ (True ∧ (True ∧ (((0 : Nat) + List.length l * (2 : Nat) ≤ List.length (gC enF l) ∧ Plain (List.take (List.length l * (2 : Nat)) (List.drop (0 : Nat) (gC enF l)))) ∧ (True ∧ (True ∧ (True ∧ (True ∧ True)))))))))))) ∧ (True ∧ True)) ∧ ((True ∧ (True ∧ True)) ∧ (True ∧ (IsF (Row.mk (List.take (List.length d * (2 : Nat)) (List.drop (0 : Nat) (gC enF d))) true (Ob.cells true)) (List.length d) ∧ (IsF (Row.mk (List.take (List.length l * (2 : Nat)) (List.drop (0 : Nat) (gC enF l))) true (Ob.cells true)) (List.length l) ∧ (List.length d ≤ (9223372036854775807 : Nat) ∧ (List.length l ≤ (9223372036854775807 : Nat) ∧ BgR (Row.mk (List.take (List.length l * (2 : Nat)) (List.drop (0 : Nat) (gC enF l))) true (Ob.cells true)))))))))) ∧
     (((((True ∧ (True ∧ (True ∧ (True ∧ (((0 : Nat) + List.length d * (2 : Nat) ≤ List.length (gC enF d) ∧ Plain (List.take (List.length d * (2 : Nat)) (List.drop (0 : Nat) (gC enF d)))) ∧ (True ∧ (True ∧ (((0 : Nat) + List.length l * (2 : Nat) ≤ List.length (gC enF l) ∧ Plain (List.take (List.length l * (2 : Nat)) (List.drop (0 : Nat) (gC enF l)))) ∧ (True ∧ (True ∧ (True ∧ (True ∧ True)))))))))))) ∧ (True ∧ True)) ∧ ((True ∧ (True ∧ True)) ∧ (True ∧ (IsF (Row.mk (List.take (List.length d * (2 : Nat)) (List.drop (0 : Nat) (gC enF d))) true (Ob.cells true)) (List.length d) ∧ (IsF (Row.mk (List.take (List.length l * (2 : Nat)) (List.drop (0 : Nat) (gC enF l))) true (Ob.cells true)) (List.length l) ∧ (List.length d ≤ (9223372036854775807 : Nat) ∧ (List.length l ≤ (9223372036854775807 : Nat) ∧ BgR (Row.mk (List.take (List.length l * (2 : Nat)) (List.drop (0 : Nat) (gC enF l))) true (Ob.cells true)))))))))) ∧
     (br (decide (ageR (Row.mk (List.take (List.length l * (2 : Nat)) (List.drop (0 : Nat) (gC enF l))) true (Ob.cells true)) x.9 x.10 (if inside b (0 : Int) (2147483647 : Int) < inside a (0 : Int) (2147483647 : Int) then inside b (0 : Int) (2147483647 : Int) else inside a (0 : Int) (2147483647 : Int)) ≤ ageR (Row.mk (List.take (List.length l * (2 : Nat)) (List.drop (0 : Nat) (gC enF l))) true (Ob.cells true)) x.9 x.10 (if inside b (0 : Int) (2147483647 : Int) > inside a (0 : Int) (2147483647 : Int) then inside b (0 : Int) (2147483647 : Int) else inside a (0 : Int) (2147483647 : Int))))
      (br (decide (IntKind.wrap IntKind.i64 (ageR (Row.mk (List.take (List.length l * (2 : Nat)) (List.drop (0 : Nat) (gC enF l))) true (Ob.cells true)) x.9 x.10 (if inside b (0 : Int) (2147483647 : Int) > inside a (0 : Int) (2147483647 : Int) then inside b (0 : Int) (2147483647 : Int) else inside a (0 : Int) (2147483647 : Int)) - ageR (Row.mk (List.take (List.length l * (2 : Nat)) (List.drop (0 : Nat) (gC enF l))) true (Ob.cells true)) x.9 x.10 (if inside b (0 : Int) (2147483647 : Int) < inside a (0 : Int) (2147483647 : Int) then inside b (0 : Int) (2147483647 : Int) else inside a (0 : Int) (2147483647 : Int))) ≤ IntKind.wrap IntKind.i64 ((if inside b (0 : Int) (2147483647 : Int) > inside a (0 : Int) (2147483647 : Int) then inside b (0 : Int) (2147483647 : Int) else inside a (0 : Int) (2147483647 : Int)) - if inside b (0 : Int) (2147483647 : Int) < inside a (0 : Int) (2147483647 : Int) then inside b (0 : Int) (2147483647 : Int) else inside a (0 : Int) (2147483647 : Int))))
       (br (decide (ageR (Row.mk (List.take (List.length l * (2 : Nat)) (List.drop (0 : Nat) (gC enF l))) true (Ob.cells true)) x.9 x.10 (-9223372036854775808 : Int) ≤ ageR (Row.mk (List.take (List.length l * (2 : Nat)) (List.drop (0 : Nat) (gC enF l))) true (Ob.cells true)) x.9 x.10 (if inside b (0 : Int) (2147483647 : Int) < inside a (0 : Int) (2147483647 : Int) then inside b (0 : Int) (2147483647 : Int) else inside a (0 : Int) (2147483647 : Int))))
        (br (decide (ageR (Row.mk (List.take (List.length l * (2 : Nat)) (List.drop (0 : Nat) (gC enF l))) true (Ob.cells true)) x.9 x.10 (-9223372036854775808 : Int) ≥ (0 : Int)))
         (br (decide (ageR (Row.mk (List.take (List.length l * (2 : Nat)) (List.drop (0 : Nat) (gC enF l))) true (Ob.cells true)) x.9 x.10 (if inside b (0 : Int) (2147483647 : Int) > inside a (0 : Int) (2147483647 : Int) then inside b (0 : Int) (2147483647 : Int) else inside a (0 : Int) (2147483647 : Int)) ≤ (2147483647 : Int)))
          (br (decide (lifeR (Row.mk (List.take (List.length l * (2 : Nat)) (List.drop (0 : Nat) (gC enF l))) true (Ob.cells true)) x.10 x.6 sh ≥ (0 : Int)))
           (br (decide (lifeR (Row.mk (List.take (List.length l * (2 : Nat)) (List.drop (0 : Nat) (gC enF l))) true (Ob.cells true)) x.10 x.6 sh ≤ (2147483647 : Int)))
            (((True ∧ (True ∧ (True ∧ True)))) ∧
            ((true = true) ∧
            ((Eq (α := List Value) (gC enF d) (gC enF d)) ∧
            ((Plain (gC enF d)) ∧
            ((Eq (α := List Value) (gC enF l) (gC enF l)) ∧
            ((Plain (gC enF l)) ∧
            True))))))
            ((true = false) ∧
            ((Eq (α := List Value) (gC enF d) (gC enF d)) ∧
            ((Plain (gC enF d)) ∧
            ((Eq (α := List Value) (gC enF l) (gC enF l)) ∧
            ((Plain (gC enF l)) ∧
            True))))))
           ((true = false) ∧
           ((Eq (α := List Value) (gC enF d) (gC enF d)) ∧
           ((Plain (gC enF d)) ∧
           ((Eq (α := List Value) (gC enF l) (gC enF l)) ∧
           ((Plain (gC enF l)) ∧
           True))))))
          ((true = false) ∧
          ((Eq (α := List Value) (gC enF d) (gC enF d)) ∧
          ((Plain (gC enF d)) ∧
          ((Eq (α := List Value) (gC enF l) (gC enF l)) ∧
          ((Plain (gC enF l)) ∧
          True))))))
         ((true = false) ∧
         ((Eq (α := List Value) (gC enF d) (gC enF d)) ∧
         ((Plain (gC enF d)) ∧
         ((Eq (α := List Value) (gC enF l) (gC enF l)) ∧
         ((Plain (gC enF l)) ∧
         True))))))
        ((true = false) ∧
        ((Eq (α := List Value) (gC enF d) (gC enF d)) ∧
        ((Plain (gC enF d)) ∧
        ((Eq (α := List Value) (gC enF l) (gC enF l)) ∧
        ((Plain (gC enF l)) ∧
        True))))))
       ((true = false) ∧
       ((Eq (α := List Value) (gC enF d) (gC enF d)) ∧
       ((Plain (gC enF d)) ∧
       ((Eq (α := List Value) (gC enF l) (gC enF l)) ∧
       ((Plain (gC enF l)) ∧
       True))))))
      ((true = false) ∧
      ((Eq (α := List Value) (gC enF d) (gC enF d)) ∧
      ((Plain (gC enF d)) ∧
      ((Eq (α := List Value) (gC enF l) (gC enF l)) ∧
      ((Plain (gC enF l)) ∧
      True))))))))))))))))
    (((True ∧ (True ∧ (True ∧ True)))) ∧
    ((true = true) ∧
    ((Eq (α := List Value) (gC enF d) (gC enF d)) ∧
    ((Plain (gC enF d)) ∧
    ((Eq (α := List Value) (gC enF l) (gC enF l)) ∧
    ((Plain (gC enF l)) ∧
    True))))))))
   (((True ∧ (True ∧ (True ∧ True)))) ∧
   ((true = true) ∧
   ((Eq (α := List Value) (gC enF d) (gC enF d)) ∧
   ((Plain (gC enF d)) ∧
   ((Eq (α := List Value) (gC enF l) (gC enF l)) ∧
   ((Plain (gC enF l)) ∧
   True)))))))) := by kernel_rfl
theorem En_vc (x : En12) (d l : List Fl) (now : Int) (n : Int) : mcall EtFg noM 60 7 [.agg ⟨enT x 0 d.length 1 l.length⟩, .int .i64 now, .int .u16 n] ⟨mkR (nums 0 [gRo enF d, gRo enF l]), 2⟩ (retIs 2 (.bool true) [gRo enF d, gRo enF l]) =
  ((((((0 : Nat) + List.length d * (2 : Nat) ≤ List.length (gC enF d) ∧ Plain (List.take (List.length d * (2 : Nat)) (List.drop (0 : Nat) (gC enF d)))) ∧ True) ∧ ((True ∧ True) ∧ (True ∧ (IsF (Row.mk (List.take (List.length d * (2 : Nat)) (List.drop (0 : Nat) (gC enF d))) true (Ob.cells true)) (List.length d) ∧ (List.length d ≤ (1048576 : Nat) ∧ ShR (Row.mk (List.take (List.length d * (2 : Nat)) (List.drop (0 : Nat) (gC enF d))) true (Ob.cells true)))))))) ∧
  (br (lgR (Row.mk (List.take (List.length d * (2 : Nat)) (List.drop (0 : Nat) (gC enF d))) true (Ob.cells true)))
   ((((((0 : Nat) + List.length l * (2 : Nat) ≤ List.length (gC enF l) ∧ Plain (List.take (List.length l * (2 : Nat)) (List.drop (0 : Nat) (gC enF l)))) ∧ True) ∧ ((True ∧ True) ∧ (True ∧ (IsF (Row.mk (List.take (List.length l * (2 : Nat)) (List.drop (0 : Nat) (gC enF l))) true (Ob.cells true)) (List.length l) ∧ (List.length l ≤ (1048576 : Nat) ∧ ShR (Row.mk (List.take (List.length l * (2 : Nat)) (List.drop (0 : Nat) (gC enF l))) true (Ob.cells true)))))))) ∧
   (br (lgR (Row.mk (List.take (List.length l * (2 : Nat)) (List.drop (0 : Nat) (gC enF l))) true (Ob.cells true)))
    (br (!decide (Int.ofNat (List.length x.8.1.1) ≤ (2000 : Int)))
     (((True ∧ (True ∧ (True ∧ True)))) ∧
     ((true = true) ∧
     ((Eq (α := List Value) (gC enF d) (gC enF d)) ∧
     ((Plain (gC enF d)) ∧
     ((Eq (α := List Value) (gC enF l) (gC enF l)) ∧
     ((Plain (gC enF l)) ∧
     True))))))
     (((((True ∧ (True ∧ (True ∧ (True ∧ (((0 : Nat) + List.length d * (2 : Nat) ≤ List.length (gC enF d) ∧ Plain (List.take (List.length d * (2 : Nat)) (List.drop (0 : Nat) (gC enF d)))) ∧ (True ∧ (True ∧ (((0 : Nat) + List.length l * (2 : Nat) ≤ List.length (gC enF l) ∧ Plain (List.take (List.length l * (2 : Nat)) (List.drop (0 : Nat) (gC enF l)))) ∧ (True ∧ (True ∧ (True ∧ (True ∧ True)))))))))))) ∧ (True ∧ True)) ∧ ((True ∧ (True ∧ True)) ∧ (True ∧ (IsF (Row.mk (List.take (List.length d * (2 : Nat)) (List.drop (0 : Nat) (gC enF d))) true (Ob.cells true)) (List.length d) ∧ (IsF (Row.mk (List.take (List.length l * (2 : Nat)) (List.drop (0 : Nat) (gC enF l))) true (Ob.cells true)) (List.length l) ∧ (List.length d ≤ (9223372036854775807 : Nat) ∧ (List.length l ≤ (9223372036854775807 : Nat) ∧ BgR (Row.mk (List.take (List.length l * (2 : Nat)) (List.drop (0 : Nat) (gC enF l))) true (Ob.cells true)))))))))) ∧
     (((((True ∧ (True ∧ (True ∧ (True ∧ (((0 : Nat) + List.length d * (2 : Nat) ≤ List.length (gC enF d) ∧ Plain (List.take (List.length d * (2 : Nat)) (List.drop (0 : Nat) (gC enF d)))) ∧ (True ∧ (True ∧ (((0 : Nat) + List.length l * (2 : Nat) ≤ List.length (gC enF l) ∧ Plain (List.take (List.length l * (2 : Nat)) (List.drop (0 : Nat) (gC enF l)))) ∧ (True ∧ (True ∧ (True ∧ (True ∧ True)))))))))))) ∧ (True ∧ True)) ∧ ((True ∧ (True ∧ True)) ∧ (True ∧ (IsF (Row.mk (List.take (List.length d * (2 : Nat)) (List.drop (0 : Nat) (gC enF d))) true (Ob.cells true)) (List.length d) ∧ (IsF (Row.mk (List.take (List.length l * (2 : Nat)) (List.drop (0 : Nat) (gC enF l))) true (Ob.cells true)) (List.length l) ∧ (List.length d ≤ (9223372036854775807 : Nat) ∧ (List.length l ≤ (9223372036854775807 : Nat) ∧ BgR (Row.mk (List.take (List.length l * (2 : Nat)) (List.drop (0 : Nat) (gC enF l))) true (Ob.cells true)))))))))) ∧
     ((Value.agg (Array.mk [Value.string x.1, Value.string x.2, Value.string x.3, Value.string x.4, Value.slice (some (Addr.mk (0 : Nat) (0 : Nat) none)) (List.length d) (2 : Nat), Value.int IntKind.i64 x.5, Value.int IntKind.i64 x.6, Value.slice (some (Addr.mk (1 : Nat) (0 : Nat) none)) (List.length l) (2 : Nat), Value.int IntKind.i64 x.7, Value.string x.8, Value.int IntKind.i64 x.9, Value.int IntKind.i64 x.10]) = Value.agg (Array.mk [Value.string x.1, Value.string x.2, Value.string x.3, Value.string x.4, Value.slice (some (Addr.mk (0 : Nat) (0 : Nat) none)) (List.length d) (2 : Nat), Value.int IntKind.i64 x.5, Value.int IntKind.i64 x.6, Value.slice (some (Addr.mk (1 : Nat) (0 : Nat) none)) (List.length l) (2 : Nat), Value.int IntKind.i64 x.7, Value.string x.8, Value.int IntKind.i64 x.9, Value.int IntKind.i64 x.10])) ∧
     ((Value.agg (Array.mk [Value.string x.1, Value.string x.2, Value.string x.3, Value.string x.4, Value.slice (some (Addr.mk (0 : Nat) (0 : Nat) none)) (List.length d) (2 : Nat), Value.int IntKind.i64 x.5, Value.int IntKind.i64 x.6, Value.slice (some (Addr.mk (1 : Nat) (0 : Nat) none)) (List.length l) (2 : Nat), Value.int IntKind.i64 x.7, Value.string x.8, Value.int IntKind.i64 x.9, Value.int IntKind.i64 x.10]) = Value.agg (Array.mk [Value.string x.1, Value.string x.2, Value.string x.3, Value.string x.4, Value.slice (some (Addr.mk (0 : Nat) (0 : Nat) none)) (List.length d) (2 : Nat), Value.int IntKind.i64 x.5, Value.int IntKind.i64 x.6, Value.slice (some (Addr.mk (1 : Nat) (0 : Nat) none)) (List.length l) (2 : Nat), Value.int IntKind.i64 x.7, Value.string x.8, Value.int IntKind.i64 x.9, Value.int IntKind.i64 x.10])) ∧
     ((Value.agg (Array.mk [Value.string x.1, Value.string x.2, Value.string x.3, Value.string x.4, Value.slice (some (Addr.mk (0 : Nat) (0 : Nat) none)) (List.length d) (2 : Nat), Value.int IntKind.i64 x.5, Value.int IntKind.i64 x.6, Value.slice (some (Addr.mk (1 : Nat) (0 : Nat) none)) (List.length l) (2 : Nat), Value.int IntKind.i64 x.7, Value.string x.8, Value.int IntKind.i64 x.9, Value.int IntKind.i64 x.10]) = Value.agg (Array.mk [Value.string x.1, Value.string x.2, Value.string x.3, Value.string x.4, Value.slice (some (Addr.mk (0 : Nat) (0 : Nat) none)) (List.length d) (2 : Nat), Value.int IntKind.i64 x.5, Value.int IntKind.i64 x.6, Value.slice (some (Addr.mk (1 : Nat) (0 : Nat) none)) (List.length l) (2 : Nat), Value.int IntKind.i64 x.7, Value.string x.8, Value.int IntKind.i64 x.9, Value.int IntKind.i64 x.10])) ∧
     (((((True ∧ (True ∧ (True ∧ (True ∧ (True ∧ (True ∧ (True ∧ (((0 : Nat) + (2 : Nat) * TypeInfo.size (Tables.types (Program.toTables (Env.P EtFg)))[(32 : Nat)] ≤ List.length (ovr (ovr (List.flatten (List.replicate (2 : Nat) (Array.toList (Value.cells (Value.agg #[Value.string (ByteArray.mk #[]), Value.string (ByteArray.mk #[])]))))) ((0 : Nat) * TypeInfo.size (Tables.types (Program.toTables (Env.P EtFg)))[(32 : Nat)]) (Array.toList (Value.cells (Value.agg (Array.mk (List.take (TypeInfo.size (Tables.types (Program.toTables (Env.P EtFg)))[(32 : Nat)]) (List.drop (0 : Nat) [Value.string (ByteArray.mk #[(99 : UInt8), (97 : UInt8), (99 : UInt8), (104 : UInt8), (101 : UInt8), (45 : UInt8), (99 : UInt8), (111 : UInt8), (110 : UInt8), (116 : UInt8), (114 : UInt8), (111 : UInt8), (108 : UInt8)]), Value.string (ByteArray.mk #[(109 : UInt8), (97 : UInt8), (120 : UInt8), (45 : UInt8), (97 : UInt8), (103 : UInt8), (101 : UInt8), (61 : UInt8), (57 : UInt8), (57 : UInt8), (57 : UInt8), (57 : UInt8), (57 : UInt8), (57 : UInt8), (57 : UInt8), (57 : UInt8), (57 : UInt8), (57 : UInt8), (57 : UInt8), (57 : UInt8), (57 : UInt8), (57 : UInt8), (57 : UInt8), (57 : UInt8), (57 : UInt8), (57 : UInt8), (57 : UInt8), (57 : UInt8), (57 : UInt8), (57 : UInt8)])]))))))) ((1 : Nat) * TypeInfo.size (Tables.types (Program.toTables (Env.P EtFg)))[(32 : Nat)]) (Array.toList (Value.cells (Value.agg (Array.mk (List.take (TypeInfo.size (Tables.types (Program.toTables (Env.P EtFg)))[(32 : Nat)]) (List.drop (0 : Nat) [Value.string (ByteArray.mk #[(97 : UInt8), (103 : UInt8), (101 : UInt8)]), Value.string (ByteArray.mk #[(57 : UInt8), (57 : UInt8), (57 : UInt8), (57 : UInt8), (57 : UInt8), (57 : UInt8), (57 : UInt8), (57 : UInt8), (57 : UInt8), (57 : UInt8), (57 : UInt8), (57 : UInt8), (57 : UInt8), (57 : UInt8), (57 : UInt8), (57 : UInt8), (57 : UInt8), (57 : UInt8), (57 : UInt8), (57 : UInt8)])]))))))) ∧ Plain (List.take ((2 : Nat) * TypeInfo.size (Tables.types (Program.toTables (Env.P EtFg)))[(32 : Nat)]) (List.drop (0 : Nat) (ovr (ovr (List.flatten (List.replicate (2 : Nat) (Array.toList (Value.cells (Value.agg #[Value.string (ByteArray.mk #[]), Value.string (ByteArray.mk #[])]))))) ((0 : Nat) * TypeInfo.size (Tables.types (Program.toTables (Env.P EtFg)))[(32 : Nat)]) (Array.toList (Value.cells (Value.agg (Array.mk (List.take (TypeInfo.size (Tables.types (Program.toTables (Env.P EtFg)))[(32 : Nat)]) (List.drop (0 : Nat) [Value.string (ByteArray.mk #[(99 : UInt8), (97 : UInt8), (99 : UInt8), (104 : UInt8), (101 : UInt8), (45 : UInt8), (99 : UInt8), (111 : UInt8), (110 : UInt8), (116 : UInt8), (114 : UInt8), (111 : UInt8), (108 : UInt8)]), Value.string (ByteArray.mk #[(109 : UInt8), (97 : UInt8), (120 : UInt8), (45 : UInt8), (97 : UInt8), (103 : UInt8), (101 : UInt8), (61 : UInt8), (57 : UInt8), (57 : UInt8), (57 : UInt8), (57 : UInt8), (57 : UInt8), (57 : UInt8), (57 : UInt8), (57 : UInt8), (57 : UInt8), (57 : UInt8), (57 : UInt8), (57 : UInt8), (57 : UInt8), (57 : UInt8), (57 : UInt8), (57 : UInt8), (57 : UInt8), (57 : UInt8), (57 : UInt8), (57 : UInt8), (57 : UInt8), (57 : UInt8)])]))))))) ((1 : Nat) * TypeInfo.size (Tables.types (Program.toTables (Env.P EtFg)))[(32 : Nat)]) (Array.toList (Value.cells (Value.agg (Array.mk (List.take (TypeInfo.size (Tables.types (Program.toTables (Env.P EtFg)))[(32 : Nat)]) (List.drop (0 : Nat) [Value.string (ByteArray.mk #[(97 : UInt8), (103 : UInt8), (101 : UInt8)]), Value.string (ByteArray.mk #[(57 : UInt8), (57 : UInt8), (57 : UInt8), (57 : UInt8), (57 : UInt8), (57 : UInt8), (57 : UInt8), (57 : UInt8), (57 : UInt8), (57 : UInt8), (57 : UInt8), (57 : UInt8), (57 : UInt8), (57 : UInt8), (57 : UInt8), (57 : UInt8), (57 : UInt8), (57 : UInt8), (57 : UInt8), (57 : UInt8)])])))))))))) ∧ (True ∧ (True ∧ (True ∧ (True ∧ True)))))))))))) ∧ (True ∧ True)) ∧ ((True ∧ (True ∧ True)) ∧ (True ∧ (IsF (Row.mk [] true (Ob.cells true)) (0 : Nat) ∧ (IsF (Row.mk [Value.string (ByteArray.mk #[(99 : UInt8), (97 : UInt8), (99 : UInt8), (104 : UInt8), (101 : UInt8), (45 : UInt8), (99 : UInt8), (111 : UInt8), (110 : UInt8), (116 : UInt8), (114 : UInt8), (111 : UInt8), (108 : UInt8)]), Value.string (ByteArray.mk #[(109 : UInt8), (97 : UInt8), (120 : UInt8), (45 : UInt8), (97 : UInt8), (103 : UInt8), (101 : UInt8), (61 : UInt8), (57 : UInt8), (57 : UInt8), (57 : UInt8), (57 : UInt8), (57 : UInt8), (57 : UInt8), (57 : UInt8), (57 : UInt8), (57 : UInt8), (57 : UInt8), (57 : UInt8), (57 : UInt8), (57 : UInt8), (57 : UInt8), (57 : UInt8), (57 : UInt8), (57 : UInt8), (57 : UInt8), (57 : UInt8), (57 : UInt8), (57 : UInt8), (57 : UInt8)]), Value.string (ByteArray.mk #[(97 : UInt8), (103 : UInt8), (101 : UInt8)]), Value.string (ByteArray.mk #[(57 : UInt8), (57 : UInt8), (57 : UInt8), (57 : UInt8), (57 : UInt8), (57 : UInt8), (57 : UInt8), (57 : UInt8), (57 : UInt8), (57 : UInt8), (57 : UInt8), (57 : UInt8), (57 : UInt8), (57 : UInt8), (57 : UInt8), (57 : UInt8), (57 : UInt8), (57 : UInt8), (57 : UInt8), (57 : UInt8)])] true (Ob.cells true)) (2 : Nat) ∧ ((0 : Nat) ≤ maxLen ∧ ((2 : Nat) ≤ maxLen ∧ BgR (Row.mk [Value.string (ByteArray.mk #[(99 : UInt8), (97 : UInt8), (99 : UInt8), (104 : UInt8), (101 : UInt8), (45 : UInt8), (99 : UInt8), (111 : UInt8), (110 : UInt8), (116 : UInt8), (114 : UInt8), (111 : UInt8), (108 : UInt8)]), Value.string (ByteArray.mk #[(109 : UInt8), (97 : UInt8), (120 : UInt8), (45 : UInt8), (97 : UInt8), (103 : UInt8), (101 : UInt8), (61 : UInt8), (57 : UInt8), (57 : UInt8), (57 : UInt8), (57 : UInt8), (57 : UInt8), (57 : UInt8), (57 : UInt8), (57 : UInt8), (57 : UInt8), (57 : UInt8), (57 : UInt8), (57 : UInt8), (57 : UInt8), (57 : UInt8), (57 : UInt8), (57 : UInt8), (57 : UInt8), (57 : UInt8), (57 : UInt8), (57 : UInt8), (57 : UInt8), (57 : UInt8)]), Value.string (ByteArray.mk #[(97 : UInt8), (103 : UInt8), (101 : UInt8)]), Value.string (ByteArray.mk #[(57 : UInt8), (57 : UInt8), (57 : UInt8), (57 : UInt8), (57 : UInt8), (57 : UInt8), (57 : UInt8), (57 : UInt8), (57 : UInt8), (57 : UInt8), (57 : UInt8), (57 : UInt8), (57 : UInt8), (57 : UInt8), (57 : UInt8), (57 : UInt8), (57 : UInt8), (57 : UInt8), (57 : UInt8), (57 : UInt8)])] true (Ob.cells true)))))))))) ∧
     (br (lifeR (Row.mk [Value.string (ByteArray.mk #[(99 : UInt8), (97 : UInt8), (99 : UInt8), (104 : UInt8), (101 : UInt8), (45 : UInt8), (99 : UInt8), (111 : UInt8), (110 : UInt8), (116 : UInt8), (114 : UInt8), (111 : UInt8), (108 : UInt8)]), Value.string (ByteArray.mk #[(109 : UInt8), (97 : UInt8), (120 : UInt8), (45 : UInt8), (97 : UInt8), (103 : UInt8), (101 : UInt8), (61 : UInt8), (57 : UInt8), (57 : UInt8), (57 : UInt8), (57 : UInt8), (57 : UInt8), (57 : UInt8), (57 : UInt8), (57 : UInt8), (57 : UInt8), (57 : UInt8), (57 : UInt8), (57 : UInt8), (57 : UInt8), (57 : UInt8), (57 : UInt8), (57 : UInt8), (57 : UInt8), (57 : UInt8), (57 : UInt8), (57 : UInt8), (57 : UInt8), (57 : UInt8)]), Value.string (ByteArray.mk #[(97 : UInt8), (103 : UInt8), (101 : UInt8)]), Value.string (ByteArray.mk #[(57 : UInt8), (57 : UInt8), (57 : UInt8), (57 : UInt8), (57 : UInt8), (57 : UInt8), (57 : UInt8), (57 : UInt8), (57 : UInt8), (57 : UInt8), (57 : UInt8), (57 : UInt8), (57 : UInt8), (57 : UInt8), (57 : UInt8), (57 : UInt8), (57 : UInt8), (57 : UInt8), (57 : UInt8), (57 : UInt8)])] true (Ob.cells true)) (IntKind.wrap IntKind.i64 n) (200 : Int) (0 : Nat) == (2147483647 : Int))
      (((((True ∧ (True ∧ (True ∧ (True ∧ (True ∧ (True ∧ (True ∧ (((0 : Nat) + (2 : Nat) * TypeInfo.size (Tables.types (Program.toTables (Env.P EtFg)))[(32 : Nat)] ≤ List.length (ovr (ovr (List.flatten (List.replicate (2 : Nat) (Array.toList (Value.cells (Value.agg #[Value.string (ByteArray.mk #[]), Value.string (ByteArray.mk #[])]))))) ((0 : Nat) * TypeInfo.size (Tables.types (Program.toTables (Env.P EtFg)))[(32 : Nat)]) (Array.toList (Value.cells (Value.agg (Array.mk (List.take (TypeInfo.size (Tables.types (Program.toTables (Env.P EtFg)))[(32 : Nat)]) (List.drop (0 : Nat) [Value.string (ByteArray.mk #[(99 : UInt8), (97 : UInt8), (99 : UInt8), (104 : UInt8), (101 : UInt8), (45 : UInt8), (99 : UInt8), (111 : UInt8), (110 : UInt8), (116 : UInt8), (114 : UInt8), (111 : UInt8), (108 : UInt8)]), Value.string (ByteArray.mk #[(109 : UInt8), (97 : UInt8), (120 : UInt8), (45 : UInt8), (97 : UInt8), (103 : UInt8), (101 : UInt8), (61 : UInt8), (57 : UInt8), (57 : UInt8), (57 : UInt8), (57 : UInt8), (57 : UInt8), (57 : UInt8), (57 : UInt8), (57 : UInt8), (57 : UInt8), (57 : UInt8), (57 : UInt8), (57 : UInt8), (57 : UInt8), (57 : UInt8), (57 : UInt8), (57 : UInt8), (57 : UInt8), (57 : UInt8), (57 : UInt8), (57 : UInt8), (57 : UInt8), (57 : UInt8)])]))))))) ((1 : Nat) * TypeInfo.size (Tables.types (Program.toTables (Env.P EtFg)))[(32 : Nat)]) (Array.toList (Value.cells (Value.agg (Array.mk (List.take (TypeInfo.size (Tables.types (Program.toTables (Env.P EtFg)))[(32 : Nat)]) (List.drop (0 : Nat) [Value.string (ByteArray.mk #[(97 : UInt8), (103 : UInt8), (101 : UInt8)]), Value.string (ByteArray.mk #[(57 : UInt8), (57 : UInt8), (57 : UInt8), (57 : UInt8), (57 : UInt8), (57 : UInt8), (57 : UInt8), (57 : UInt8), (57 : UInt8), (57 : UInt8), (57 : UInt8), (57 : UInt8), (57 : UInt8), (57 : UInt8), (57 : UInt8), (57 : UInt8), (57 : UInt8), (57 : UInt8), (57 : UInt8), (57 : UInt8)])]))))))) ∧ Plain (List.take ((2 : Nat) * TypeInfo.size (Tables.types (Program.toTables (Env.P EtFg)))[(32 : Nat)]) (List.drop (0 : Nat) (ovr (ovr (List.flatten (List.replicate (2 : Nat) (Array.toList (Value.cells (Value.agg #[Value.string (ByteArray.mk #[]), Value.string (ByteArray.mk #[])]))))) ((0 : Nat) * TypeInfo.size (Tables.types (Program.toTables (Env.P EtFg)))[(32 : Nat)]) (Array.toList (Value.cells (Value.agg (Array.mk (List.take (TypeInfo.size (Tables.types (Program.toTables (Env.P EtFg)))[(32 : Nat)]) (List.drop (0 : Nat) [Value.string (ByteArray.mk #[(99 : UInt8), (97 : UInt8), (99 : UInt8), (104 : UInt8), (101 : UInt8), (45 : UInt8), (99 : UInt8), (111 : UInt8), (110 : UInt8), (116 : UInt8), (114 : UInt8), (111 : UInt8), (108 : UInt8)]), Value.string (ByteArray.mk #[(109 : UInt8), (97 : UInt8), (120 : UInt8), (45 : UInt8), (97 : UInt8), (103 : UInt8), (101 : UInt8), (61 : UInt8), (57 : UInt8), (57 : UInt8), (57 : UInt8), (57 : UInt8), (57 : UInt8), (57 : UInt8), (57 : UInt8), (57 : UInt8), (57 : UInt8), (57 : UInt8), (57 : UInt8), (57 : UInt8), (57 : UInt8), (57 : UInt8), (57 : UInt8), (57 : UInt8), (57 : UInt8), (57 : UInt8), (57 : UInt8), (57 : UInt8), (57 : UInt8), (57 : UInt8)])]))))))) ((1 : Nat) * TypeInfo.size (Tables.types (Program.toTables (Env.P EtFg)))[(32 : Nat)]) (Array.toList (Value.cells (Value.agg (Array.mk (List.take (TypeInfo.size (Tables.types (Program.toTables (Env.P EtFg)))[(32 : Nat)]) (List.drop (0 : Nat) [Value.string (ByteArray.mk #[(97 : UInt8), (103 : UInt8), (101 : UInt8)]), Value.string (ByteArray.mk #[(57 : UInt8), (57 : UInt8), (57 : UInt8), (57 : UInt8), (57 : UInt8), (57 : UInt8), (57 : UInt8), (57 : UInt8), (57 : UInt8), (57 : UInt8), (57 : UInt8), (57 : UInt8), (57 : UInt8), (57 : UInt8), (57 : UInt8), (57 : UInt8), (57 : UInt8), (57 : UInt8), (57 : UInt8), (57 : UInt8)])])))))))))) ∧ (True ∧ (True ∧ (True ∧ (True ∧ True)))))))))))) ∧ (True ∧ True)) ∧ ((True ∧ (True ∧ True)) ∧ (True ∧ (IsF (Row.mk [] true (Ob.cells true)) (0 : Nat) ∧ (IsF (Row.mk [Value.string (ByteArray.mk #[(99 : UInt8), (97 : UInt8), (99 : UInt8), (104 : UInt8), (101 : UInt8), (45 : UInt8), (99 : UInt8), (111 : UInt8), (110 : UInt8), (116 : UInt8), (114 : UInt8), (111 : UInt8), (108 : UInt8)]), Value.string (ByteArray.mk #[(109 : UInt8), (97 : UInt8), (120 : UInt8), (45 : UInt8), (97 : UInt8), (103 : UInt8), (101 : UInt8), (61 : UInt8), (57 : UInt8), (57 : UInt8), (57 : UInt8), (57 : UInt8), (57 : UInt8), (57 : UInt8), (57 : UInt8), (57 : UInt8), (57 : UInt8), (57 : UInt8), (57 : UInt8), (57 : UInt8), (57 : UInt8), (57 : UInt8), (57 : UInt8), (57 : UInt8), (57 : UInt8), (57 : UInt8), (57 : UInt8), (57 : UInt8), (57 : UInt8), (57 : UInt8)]), Value.string (ByteArray.mk #[(97 : UInt8), (103 : UInt8), (101 : UInt8)]), Value.string (ByteArray.mk #[(57 : UInt8), (57 : UInt8), (57 : UInt8), (57 : UInt8), (57 : UInt8), (57 : UInt8), (57 : UInt8), (57 : UInt8), (57 : UInt8), (57 : UInt8), (57 : UInt8), (57 : UInt8), (57 : UInt8), (57 : UInt8), (57 : UInt8), (57 : UInt8), (57 : UInt8), (57 : UInt8), (57 : UInt8), (57 : UInt8)])] true (Ob.cells true)) (2 : Nat) ∧ ((0 : Nat) ≤ maxLen ∧ ((2 : Nat) ≤ maxLen ∧ BgR (Row.mk [Value.string (ByteArray.mk #[(99 : UInt8), (97 : UInt8), (99 : UInt8), (104 : UInt8), (101 : UInt8), (45 : UInt8), (99 : UInt8), (111 : UInt8), (110 : UInt8), (116 : UInt8), (114 : UInt8), (111 : UInt8), (108 : UInt8)]), Value.string (ByteArray.mk #[(109 : UInt8), (97 : UInt8), (120 : UInt8), (45 : UInt8), (97 : UInt8), (103 : UInt8), (101 : UInt8), (61 : UInt8), (57 : UInt8), (57 : UInt8), (57 : UInt8), (57 : UInt8), (57 : UInt8), (57 : UInt8), (57 : UInt8), (57 : UInt8), (57 : UInt8), (57 : UInt8), (57 : UInt8), (57 : UInt8), (57 : UInt8), (57 : UInt8), (57 : UInt8), (57 : UInt8), (57 : UInt8), (57 : UInt8), (57 : UInt8), (57 : UInt8), (57 : UInt8), (57 : UInt8)]), Value.string (ByteArray.mk #[(97 : UInt8), (103 : UInt8), (101 : UInt8)]), Value.string (ByteArray.mk #[(57 : UInt8), (57 : UInt8), (57 : UInt8), (57 : UInt8), (57 : UInt8), (57 : UInt8), (57 : UInt8), (57 : UInt8), (57 : UInt8), (57 : UInt8), (57 : UInt8), (57 : UInt8), (57 : UInt8), (57 : UInt8), (57 : UInt8), (57 : UInt8), (57 : UInt8), (57 : UInt8), (57 : UInt8), (57 : UInt8)])] true (Ob.cells true)))))))))) ∧
      (br (ageR (Row.mk [Value.string (ByteArray.mk #[(99 : UInt8), (97 : UInt8), (99 : UInt8), (104 : UInt8), (101 : UInt8), (45 : UInt8), (99 : UInt8), (111 : UInt8), (110 : UInt8), (116 : UInt8), (114 : UInt8), (111 : UInt8), (108 : UInt8)]), Value.string (ByteArray.mk #[(109 : UInt8), (97 : UInt8), (120 : UInt8), (45 : UInt8), (97 : UInt8), (103 : UInt8), (101 : UInt8), (61 : UInt8), (57 : UInt8), (57 : UInt8), (57 : UInt8), (57 : UInt8), (57 : UInt8), (57 : UInt8), (57 : UInt8), (57 : UInt8), (57 : UInt8), (57 : UInt8), (57 : UInt8), (57 : UInt8), (57 : UInt8), (57 : UInt8), (57 : UInt8), (57 : UInt8), (57 : UInt8), (57 : UInt8), (57 : UInt8), (57 : UInt8), (57 : UInt8), (57 : UInt8)]), Value.string (ByteArray.mk #[(97 : UInt8), (103 : UInt8), (101 : UInt8)]), Value.string (ByteArray.mk #[(57 : UInt8), (57 : UInt8), (57 : UInt8), (57 : UInt8), (57 : UInt8), (57 : UInt8), (57 : UInt8), (57 : UInt8), (57 : UInt8), (57 : UInt8), (57 : UInt8), (57 : UInt8), (57 : UInt8), (57 : UInt8), (57 : UInt8), (57 : UInt8), (57 : UInt8), (57 : UInt8), (57 : UInt8), (57 : UInt8)])] true (Ob.cells true)) (IntKind.wrap IntKind.i64 n) (IntKind.wrap IntKind.i64 n) (IntKind.wrap IntKind.i64 n) == (2147483647 : Int))
       (((((True ∧ (True ∧ (True ∧ (True ∧ (True ∧ (True ∧ (True ∧ (((0 : Nat) + (2 : Nat) * TypeInfo.size (Tables.types (Program.toTables (Env.P EtFg)))[(32 : Nat)] ≤ List.length (ovr (ovr (List.flatten (List.replicate (2 : Nat) (Array.toList (Value.cells (Value.agg #[Value.string (ByteArray.mk #[]), Value.string (ByteArray.mk #[])]))))) ((0 : Nat) * TypeInfo.size (Tables.types (Program.toTables (Env.P EtFg)))[(32 : Nat)]) (Array.toList (Value.cells (Value.agg (Array.mk (List.take (TypeInfo.size (Tables.types (Program.toTables (Env.P EtFg)))[(32 : Nat)]) (List.drop (0 : Nat) [Value.string (ByteArray.mk #[(99 : UInt8), (97 : UInt8), (99 : UInt8), (104 : UInt8), (101 : UInt8), (45 : UInt8), (99 : UInt8), (111 : UInt8), (110 : UInt8), (116 : UInt8), (114 : UInt8), (111 : UInt8), (108 : UInt8)]), Value.string (ByteArray.mk #[(109 : UInt8), (97 : UInt8), (120 : UInt8), (45 : UInt8), (97 : UInt8), (103 : UInt8), (101 : UInt8), (61 : UInt8), (57 : UInt8), (57 : UInt8), (57 : UInt8), (57 : UInt8), (57 : UInt8), (57 : UInt8), (57 : UInt8), (57 : UInt8), (57 : UInt8), (57 : UInt8), (57 : UInt8), (57 : UInt8), (57 : UInt8), (57 : UInt8), (57 : UInt8), (57 : UInt8), (57 : UInt8), (57 : UInt8), (57 : UInt8), (57 : UInt8), (57 : UInt8), (57 : UInt8)])]))))))) ((1 : Nat) * TypeInfo.size (Tables.types (Program.toTables (Env.P EtFg)))[(32 : Nat)]) (Array.toList (Value.cells (Value.agg (Array.mk (List.take (TypeInfo.size (Tables.types (Program.toTables (Env.P EtFg)))[(32 : Nat)]) (List.drop (0 : Nat) [Value.string (ByteArray.mk #[(97 : UInt8), (103 : UInt8), (101 : UInt8)]), Value.string (ByteArray.mk #[(57 : UInt8), (57 : UInt8), (57 : UInt8), (57 : UInt8), (57 : UInt8), (57 : UInt8), (57 : UInt8), (57 : UInt8), (57 : UInt8), (57 : UInt8), (57 : UInt8), (57 : UInt8), (57 : UInt8), (57 : UInt8), (57 : UInt8), (57 : UInt8), (57 : UInt8), (57 : UInt8), (57 : UInt8), (57 : UInt8)])]))))))) ∧ Plain (List.take ((2 : Nat) * TypeInfo.size (Tables.types (Program.toTables (Env.P EtFg)))[(32 : Nat)]) (List.drop (0 : Nat) (ovr (ovr (List.flatten (List.replicate (2 : Nat) (Array.toList (Value.cells (Value.agg #[Value.string (ByteArray.mk #[]), Value.string (ByteArray.mk #[])]))))) ((0 : Nat) * TypeInfo.size (Tables.types (Program.toTables (Env.P EtFg)))[(32 : Nat)]) (Array.toList (Value.cells (Value.agg (Array.mk (List.take (TypeInfo.size (Tables.types (Program.toTables (Env.P EtFg)))[(32 : Nat)]) (List.drop (0 : Nat) [Value.string (ByteArray.mk #[(99 : UInt8), (97 : UInt8), (99 : UInt8), (104 : UInt8), (101 : UInt8), (45 : UInt8), (99 : UInt8), (111 : UInt8), (110 : UInt8), (116 : UInt8), (114 : UInt8), (111 : UInt8), (108 : UInt8)]), Value.string (ByteArray.mk #[(109 : UInt8), (97 : UInt8), (120 : UInt8), (45 : UInt8), (97 : UInt8), (103 : UInt8), (101 : UInt8), (61 : UInt8), (57 : UInt8), (57 : UInt8), (57 : UInt8), (57 : UInt8), (57 : UInt8), (57 : UInt8), (57 : UInt8), (57 : UInt8), (57 : UInt8), (57 : UInt8), (57 : UInt8), (57 : UInt8), (57 : UInt8), (57 : UInt8), (57 : UInt8), (57 : UInt8), (57 : UInt8), (57 : UInt8), (57 : UInt8), (57 : UInt8), (57 : UInt8), (57 : UInt8)])]))))))) ((1 : Nat) * TypeInfo.size (Tables.types (Program.toTables (Env.P EtFg)))[(32 : Nat)]) (Array.toList (Value.cells (Value.agg (Array.mk (List.take (TypeInfo.size (Tables.types (Program.toTables (Env.P EtFg)))[(32 : Nat)]) (List.drop (0 : Nat) [Value.string (ByteArray.mk #[(97 : UInt8), (103 : UInt8), (101 : UInt8)]), Value.string (ByteArray.mk #[(57 : UInt8), (57 : UInt8), (57 : UInt8), (57 : UInt8), (57 : UInt8), (57 : UInt8), (57 : UInt8), (57 : UInt8), (57 : UInt8), (57 : UInt8), (57 : UInt8), (57 : UInt8), (57 : UInt8), (57 : UInt8), (57 : UInt8), (57 : UInt8), (57 : UInt8), (57 : UInt8), (57 : UInt8), (57 : UInt8)])])))))))))) ∧ (True ∧ (True ∧ (True ∧ (True ∧ True)))))))))))) ∧ (True ∧ True)) ∧ ((True ∧ (True ∧ True)) ∧ (True ∧ (IsF (Row.mk [] true (Ob.cells true)) (0 : Nat) ∧ (IsF (Row.mk [Value.string (ByteArray.mk #[(99 : UInt8), (97 : UInt8), (99 : UInt8), (104 : UInt8), (101 : UInt8), (45 : UInt8), (99 : UInt8), (111 : UInt8), (110 : UInt8), (116 : UInt8), (114 : UInt8), (111 : UInt8), (108 : UInt8)]), Value.string (ByteArray.mk #[(109 : UInt8), (97 : UInt8), (120 : UInt8), (45 : UInt8), (97 : UInt8), (103 : UInt8), (101 : UInt8), (61 : UInt8), (57 : UInt8), (57 : UInt8), (57 : UInt8), (57 : UInt8), (57 : UInt8), (57 : UInt8), (57 : UInt8), (57 : UInt8), (57 : UInt8), (57 : UInt8), (57 : UInt8), (57 : UInt8), (57 : UInt8), (57 : UInt8), (57 : UInt8), (57 : UInt8), (57 : UInt8), (57 : UInt8), (57 : UInt8), (57 : UInt8), (57 : UInt8), (57 : UInt8)]), Value.string (ByteArray.mk #[(97 : UInt8), (103 : UInt8), (101 : UInt8)]), Value.string (ByteArray.mk #[(57 : UInt8), (57 : UInt8), (57 : UInt8), (57 : UInt8), (57 : UInt8), (57 : UInt8), (57 : UInt8), (57 : UInt8), (57 : UInt8), (57 : UInt8), (57 : UInt8), (57 : UInt8), (57 : UInt8), (57 : UInt8), (57 : UInt8), (57 : UInt8), (57 : UInt8), (57 : UInt8), (57 : UInt8), (57 : UInt8)])] true (Ob.cells true)) (2 : Nat) ∧ ((0 : Nat) ≤ maxLen ∧ ((2 : Nat) ≤ maxLen ∧ BgR (Row.mk [Value.string (ByteArray.mk #[(99 : UInt8), (97 : UInt8), (99 : UInt8), (104 : UInt8), (101 : UInt8), (45 : UInt8), (99 : UInt8), (111 : UInt8), (110 : UInt8), (116 : UInt8), (114 : UInt8), (111 : UInt8), (108 : UInt8)]), Value.string (ByteArray.mk #[(109 : UInt8), (97 : UInt8), (120 : UInt8), (45 : UInt8), (97 : UInt8), (103 : UInt8), (101 : UInt8), (61 : UInt8), (57 : UInt8), (57 : UInt8), (57 : UInt8), (57 : UInt8), (57 : UInt8), (57 : UInt8), (57 : UInt8), (57 : UInt8), (57 : UInt8), (57 : UInt8), (57 : UInt8), (57 : UInt8), (57 : UInt8), (57 : UInt8), (57 : UInt8), (57 : UInt8), (57 : UInt8), (57 : UInt8), (57 : UInt8), (57 : UInt8), (57 : UInt8), (57 : UInt8)]), Value.string (ByteArray.mk #[(97 : UInt8), (103 : UInt8), (101 : UInt8)]), Value.string (ByteArray.mk #[(57 : UInt8), (57 : UInt8), (57 : UInt8), (57 : UInt8), (57 : UInt8), (57 : UInt8), (57 : UInt8), (57 : UInt8), (57 : UInt8), (57 : UInt8), (57 : UInt8), (57 : UInt8), (57 : UInt8), (57 : UInt8), (57 : UInt8), (57 : UInt8), (57 : UInt8), (57 : UInt8), (57 : UInt8), (57 : UInt8)])] true (Ob.cells true)))))))))) ∧
       (br (ageR (Row.mk [Value.string (ByteArray.mk #[(99 : UInt8), (97 : UInt8), (99 : UInt8), (104 : UInt8), (101 : UInt8), (45 : UInt8), (99 : UInt8), (111 : UInt8), (110 : UInt8), (116 : UInt8), (114 : UInt8), (111 : UInt8), (108 : UInt8)]), Value.string (ByteArray.mk #[(109 : UInt8), (97 : UInt8), (120 : UInt8), (45 : UInt8), (97 : UInt8), (103 : UInt8), (101 : UInt8), (61 : UInt8), (57 : UInt8), (57 : UInt8), (57 : UInt8), (57 : UInt8), (57 : UInt8), (57 : UInt8), (57 : UInt8), (57 : UInt8), (57 : UInt8), (57 : UInt8), (57 : UInt8), (57 : UInt8), (57 : UInt8), (57 : UInt8), (57 : UInt8), (57 : UInt8), (57 : UInt8), (57 : UInt8), (57 : UInt8), (57 : UInt8), (57 : UInt8), (57 : UInt8)]), Value.string (ByteArray.mk #[(97 : UInt8), (103 : UInt8), (101 : UInt8)]), Value.string (ByteArray.mk #[(57 : UInt8), (57 : UInt8), (57 : UInt8), (57 : UInt8), (57 : UInt8), (57 : UInt8), (57 : UInt8), (57 : UInt8), (57 : UInt8), (57 : UInt8), (57 : UInt8), (57 : UInt8), (57 : UInt8), (57 : UInt8), (57 : UInt8), (57 : UInt8), (57 : UInt8), (57 : UInt8), (57 : UInt8), (57 : UInt8)])] true (Ob.cells true)) (IntKind.wrap IntKind.i64 n) (IntKind.wrap IntKind.i64 n) (4611686018427387904 : Int) == (2147483647 : Int))
        (br (decide (IntKind.wrap IntKind.i64 (lifeR (Row.mk (List.take (List.length l * (2 : Nat)) (List.drop (0 : Nat) (gC enF l))) true (Ob.cells true)) x.10 x.6 (4607182418800017408 : Nat) - ageR (Row.mk (List.take (List.length l * (2 : Nat)) (List.drop (0 : Nat) (gC enF l))) true (Ob.cells true)) x.9 x.10 now) ≤ (2147483647 : Int)))
         (br (decide (IntKind.wrap IntKind.i64 (lifeR (Row.mk (List.take (List.length l * (2 : Nat)) (List.drop (0 : Nat) (gC enF l))) true (Ob.cells true)) x.10 x.6 (4607182418800017408 : Nat) - ageR (Row.mk (List.take (List.length l * (2 : Nat)) (List.drop (0 : Nat) (gC enF l))) true (Ob.cells true)) x.9 x.10 now) ≥ (-2147483647 : Int)))
          (((True ∧ (True ∧ (True ∧ True)))) ∧
          ((true = true) ∧
          ((Eq (α := List Value) (gC enF d) (gC enF d)) ∧
          ((Plain (gC enF d)) ∧
          ((Eq (α := List Value) (gC enF l) (gC enF l)) ∧
          ((Plain (gC enF l)) ∧
          True))))))
          ((true = false) ∧
          ((Eq (α := List Value) (gC enF d) (gC enF d)) ∧
          ((Plain (gC enF d)) ∧
          ((Eq (α := List Value) (gC enF l) (gC enF l)) ∧
          ((Plain (gC enF l)) ∧
          True))))))
         ((true = false) ∧
         ((Eq (α := List Value) (gC enF d) (gC enF d)) ∧
         ((Plain (gC enF d)) ∧
         ((Eq (α := List Value) (gC enF l) (gC enF l)) ∧
         ((Plain (gC enF l)) ∧
         True))))))
        ((true = false) ∧
        ((Eq (α := List Value) (gC enF d) (gC enF d)) ∧
        ((Plain (gC enF d)) ∧
        ((Eq (α := List Value) (gC enF l) (gC enF l)) ∧
        ((Plain (gC enF l)) ∧
        True)))))))
       ((true = false) ∧
       ((Eq (α := List Value) (gC enF d) (gC enF d)) ∧
       ((Plain (gC enF d)) ∧
       ((Eq (α := List Value) (gC enF l) (gC enF l)) ∧
       ((Plain (gC enF l)) ∧
       True)))))))
      ((true = false) ∧
      ((Eq (α := List Value) (gC enF d) (gC enF d)) ∧
      ((Plain (gC enF d)) ∧
      ((Eq (α := List Value) (gC enF l) (gC enF l)) ∧
      ((Plain (gC enF l)) ∧
      True)))))))))))))
    (((True ∧ (True ∧ (True ∧ True)))) ∧
    ((true = true) ∧
    ((Eq (α := List Value) (gC enF d) (gC enF d)) ∧
    ((Plain (gC enF d)) ∧
    ((Eq (α := List Value) (gC enF l) (gC enF l)) ∧
    ((Plain (gC enF l)) ∧
    True))))))))
   (((True ∧ (True ∧ (True ∧ True)))) ∧
   ((true = true) ∧
   ((Eq (α := List Value) (gC enF d) (gC enF d)) ∧
   ((Plain (gC enF d)) ∧
   ((Eq (α := List Value) (gC enF l) (gC enF l)) ∧
   ((Plain (gC enF l)) ∧
   True)))))))) := by kernel_rfl
theorem eLi_ok : EntOk Try.prog eLi := entC_ok (by
  intro a rows p v news h hp
  split at h <;> simp only [Option.some.injEq, Prod.mk.injEq, reduceCtorEq] at h
  obtain ⟨rfl, rfl, rfl⟩ := h
  obtain ⟨⟨d, rfl, rfl⟩, ⟨l, rfl, rfl⟩, h1, h2, h3⟩ := hp
  simp only [z_lifeR, BgR, dF0, List.append_nil] at h3 ⊢
  exact li_con ⟨_, _, _, _, _, _, _, _, _, _⟩ d l _ h1 h2 h3)
theorem eAg_ok : EntOk Try.prog eAg := entC_ok (by
  intro a rows p v news h hp
  split at h <;> simp only [Option.some.injEq, Prod.mk.injEq, reduceCtorEq] at h
  obtain ⟨rfl, rfl, rfl⟩ := h
  obtain ⟨⟨d, rfl, rfl⟩, ⟨l, rfl, rfl⟩, h1, h2, h3⟩ := hp
  simp only [z_ageR, BgR, dF0, List.append_nil] at h3 ⊢
  exact ag_con ⟨_, _, _, _, _, _, _, _, _, _⟩ d l _ h1 h2 h3)
theorem eLgF_ok : EntOk Try.prog eLgF := entC_ok (by
  intro a rows p v news h hp
  split at h <;> simp only [Option.some.injEq, Prod.mk.injEq, reduceCtorEq] at h
  obtain ⟨rfl, rfl, rfl⟩ := h
  obtain ⟨⟨l, rfl, rfl⟩, h1, h2⟩ := hp
  simp only [lgR, ShR, dF0, List.append_nil] at h2 ⊢
  exact Lg_con l h1 h2)
theorem eWi_ok : EntOk Try.prog eWi := entC_ok (by
  intro a rows p v news h hp
  split at h <;> simp only [Option.some.injEq, Prod.mk.injEq, reduceCtorEq] at h
  obtain ⟨rfl, rfl, rfl⟩ := h
  exact within_con _ _ _ hp.1 hp.2.1 hp.2.2.1 hp.2.2.2)
theorem eRuns_ok : EntOk Try.prog eRuns := entC_ok (by
  intro a rows p v news h hp
  split at h <;> simp only [Option.some.injEq, Prod.mk.injEq, reduceCtorEq] at h
  obtain ⟨rfl, rfl, rfl⟩ := h
  exact con_run mixed (n := 1000000) (by kernel_rfl) (by kernel_rfl))
theorem tFg_ok : ∀ x ∈ tFg, EntOk Try.prog x := all_cons eLgF_ok (all_cons eWi_ok (all_cons eRuns_ok (all_cons eLi_ok (all_cons eAg_ok (all_nil)))))
theorem ct_in (l : List Fl) : (ctlL l).ma ≤ 2147483647 ∧ (ctlL l).sh ≤ 2147483647 := by
  have key : ∀ (ps : List Pr) (c : Ct), c.ma ≤ 2147483647 ∧ c.sh ≤ 2147483647 → (ps.foldl stepC c).ma ≤ 2147483647 ∧ (ps.foldl stepC c).sh ≤ 2147483647 := by
    intro ps
    induction ps with
    | nil => intro c h; exact h
    | cons p ps ih =>
      intro c h
      rw [List.foldl_cons]
      refine ih _ ?_
      have hn : numN p ≤ 2147483647 := by
        unfold numN
        have := secL_le p.v
        split <;> omega
      unfold stepC numC flagC smal
      simp only
      constructor
      · split <;> (try split) <;> omega
      · split <;> (try split) <;> omega
  unfold ctlL ctlP
  exact key _ _ ⟨by decide, by decide⟩
theorem life_in (l : List Fl) (c st : Int) (sh : Nat) : 0 ≤ lifeL l c st sh ∧ lifeL l c st sh ≤ 2147483647 := by
  have h1 := ct_in l
  have h2 := or_in l c
  have h3 := dt_in l sExp
  have h4 := dt_in l sLast
  unfold lifeL
  split
  · omega
  · split
    · omega
    · split
      · split <;> omega
      · split
        · have hl : ∀ n, 0 ≤ Go.Proofs.Ytideeogedleabaa.fl.lim n ∧ Go.Proofs.Ytideeogedleabaa.fl.lim n ≤ 2147483647 := fun n => by unfold Go.Proofs.Ytideeogedleabaa.fl.lim; omega
          have := Go.Proofs.Ytideeogedleabaa.fl.shr_le (Go.Proofs.Ytideeogedleabaa.fl.lim (orL l c - dtJ (dtO l sLast))) (Go.Proofs.Ytideeogedleabaa.fl.cl sh) (hl _).1 (hl _).2 (Go.Proofs.Ytideeogedleabaa.fl.cl_unit sh)
          have := (hl (orL l c - dtJ (dtO l sLast))).2
          omega
        · omega
theorem lg_bg {l : List Fl} (h : lgB l = true) : BgL l := fun nm => by
  have h : lgN l ≤ 2000 := by unfold lgB at h; simpa using h
  have := allL_le l nm
  omega
theorem lgR_mk (l : List Fl) (b : Bool) (o : Ob) : lgR ⟨gC enF l, b, o⟩ = lgB l := by unfold lgR; simp only; rw [decF_gC]
theorem shR_mk (l : List Fl) (b : Bool) (o : Ob) (h : ShortF l) : ShR ⟨gC enF l, b, o⟩ := by unfold ShR; simp only; rw [decF_gC]; exact h
theorem bgR_mk (l : List Fl) (b : Bool) (o : Ob) (h : BgL l) : BgR ⟨gC enF l, b, o⟩ := by unfold BgR; simp only; rw [decF_gC]; exact h
theorem age_in (l : List Fl) (a c n : Int) : 0 ≤ ageL l a c n ∧ ageL l a c n ≤ 2147483647 := by
  have h1 := told_in l
  have h2 := or_in l c
  unfold ageL lim
  omega
theorem age_mono (l : List Fl) (a c : Int) {m n : Int} (h0 : 0 ≤ m) (h : m ≤ n) (h1 : n ≤ 2147483647) : ageL l a c m ≤ ageL l a c n ∧ ageL l a c n - ageL l a c m ≤ n - m := by
  have h3 := told_in l
  have h4 := or_in l c
  unfold ageL lim
  omega
theorem age_first (l : List Fl) (a c m : Int) : ageL l a c (-9223372036854775808) ≤ ageL l a c m := by
  have h3 := told_in l
  have h4 := or_in l c
  unfold ageL lim
  omega
theorem eF_life (c st : Int) (sh : Nat) : lifeL eF c st sh = 2147483647 := by
  have h1 : (ctlL eF).sh = -1 := by decide
  have h2 : (ctlL eF).ma = 2147483647 := by decide
  unfold lifeL
  rw [h1, h2, if_neg (by omega), if_pos (by omega)]
theorem eF_age (a n : Int) : ageL eF a a n = 2147483647 := by
  have h1 : toldL eF = 2147483647 := by decide
  have h2 := or_in eF a
  unfold ageL
  rw [h1]
  have h3 := lim_in a
  have h4 := lim_in n
  omega
theorem ov1 (a b : ByteArray) : ovr (List.replicate 1 (Value.agg #[.string ⟨#[]⟩, .string ⟨#[]⟩]).cells.toList).flatten 0 (Value.agg ⟨List.take 2 [.string a, .string b]⟩).cells.toList = [.string a, .string b] := rfl
theorem ov2 (a b c d : ByteArray) : ovr (ovr (List.replicate 2 (Value.agg #[.string ⟨#[]⟩, .string ⟨#[]⟩]).cells.toList).flatten 0 (Value.agg ⟨List.take 2 [.string a, .string b]⟩).cells.toList) 2 (Value.agg ⟨List.take 2 [.string c, .string d]⟩).cells.toList = [.string a, .string b, .string c, .string d] := rfl
theorem tk2 (a b : ByteArray) : List.take 2 [Value.string a, Value.string b] = [Value.string a, Value.string b] := rfl
theorem tk4 (a b c d : ByteArray) : List.take 4 [Value.string a, Value.string b, Value.string c, Value.string d] = [Value.string a, Value.string b, Value.string c, Value.string d] := rfl
theorem lift_br {d l : List Fl} {body : ByteArray} {Q : Prop} (hd : d.length ≤ 1048576) (hd2 : ShortF d) (hl : l.length ≤ 1048576) (hl2 : ShortF l) (h : lgB l = true → Q) :
    (d.length * 2 ≤ d.length * 2 ∧ IsF ⟨gC enF d, true, .cells true⟩ d.length ∧ d.length ≤ 1048576 ∧ ShR ⟨gC enF d, true, .cells true⟩) ∧
    br (lgB d) ((l.length * 2 ≤ l.length * 2 ∧ IsF ⟨gC enF l, true, .cells true⟩ l.length ∧ l.length ≤ 1048576 ∧ ShR ⟨gC enF l, true, .cells true⟩) ∧
      br (lgB l) (br (!decide ((body.data.toList.length : Int) ≤ 2000)) True Q) True) True :=
  ⟨⟨Nat.le_refl _, isF_mk _ _ rfl, hd, shR_mk _ _ _ hd2⟩, br_intro (fun _ => ⟨⟨Nat.le_refl _, isF_mk _ _ rfl, hl, shR_mk _ _ _ hl2⟩, br_intro (fun g => br_intro (fun _ => trivial) (fun _ => h g)) (fun _ => trivial)⟩) (fun _ => trivial)⟩
theorem gr_law (em es ea ep : ByteArray) (d : List Fl) (ek st : Int) (l : List Fl) (k2 : Int) (body : ByteArray) (asked came a b : Int) (sh : Nat)
    (z1 : em.size ≤ 1048576) (z2 : es.size ≤ 1048576) (z3 : ea.size ≤ 1048576) (z4 : ep.size ≤ 1048576) (hd : d.length ≤ 1048576) (hd2 : ∀ f ∈ d, f.n.length ≤ 1048576 ∧ f.v.length ≤ 1048576) (i1 : I64 ek) (i2 : I64 st) (hl : l.length ≤ 1048576) (hl2 : ∀ f ∈ l, f.n.length ≤ 1048576 ∧ f.v.length ≤ 1048576) (i3 : I64 k2) (z5 : body.size ≤ 1048576) (i4 : I64 asked) (i5 : I64 came) (ia : I64 a) (ib : I64 b) :
    Con Try.prog 5 [.agg ⟨enT ⟨em, es, ea, ep, ek, st, k2, body, asked, came⟩ 0 d.length 1 l.length⟩, .int .i64 a, .int .i64 b, .float .f64 sh] [gRo enF d, gRo enF l] (.bool true) [gRo enF d, gRo enF l] := by
  refine con_vc (E := EtFg) mixed (calls_envT tFg_ok) (lok_envT _ _) (M := noM) lm_none (Gr_vc ⟨em, es, ea, ep, ek, st, k2, body, asked, came⟩ d l a b sh) ?_
  have hm : maxLen = 9223372036854775807 := by unfold maxLen; rfl
  simp only [mx1, mn1]
  simp only [ofNat_eq, toNat_cast, Nat.zero_add, Nat.add_zero, Nat.mul_one, List.drop_zero, bCells_len, bCells_drop, bCells_take, bCells_app, bCells_one, bCells_plain, List.length_replicate, List.length_append, List.length_take, List.length_drop, List.take_length, and_true, true_and, and_self, decide_true, List.length_nil, List.length_cons, Nat.sub_zero, dB_mk, dB_ro, List.take_zero, fPl, fLen, fTake, lgR_mk, z_ageR, z_lifeR, decF_gC]
  refine lift_br hd hd2 hl hl2 (fun g => ?_)
  have P : (d.length * 2 ≤ d.length * 2 ∧ l.length * 2 ≤ l.length * 2) ∧ IsF ⟨gC enF d, true, .cells true⟩ d.length ∧ IsF ⟨gC enF l, true, .cells true⟩ l.length ∧ d.length ≤ 9223372036854775807 ∧ l.length ≤ 9223372036854775807 ∧ BgR ⟨gC enF l, true, .cells true⟩ := ⟨⟨Nat.le_refl _, Nat.le_refl _⟩, isF_mk _ _ rfl, isF_mk _ _ rfl, by omega, by omega, bgR_mk _ _ _ (lg_bg g)⟩
  have ha := inside_in a 0 2147483647 (by omega)
  have hb := inside_in b 0 2147483647 (by omega)
  refine ⟨⟨ia, by omega, by omega, by omega⟩, ⟨ib, by omega, by omega, by omega⟩, P, P, P, P, ?_⟩
  generalize inside a 0 2147483647 = A at *
  generalize inside b 0 2147483647 = B at *
  have h1 := age_in l asked came (min B A)
  have h2 := age_in l asked came (max B A)
  have h3 := age_mono l asked came (m := min B A) (n := max B A) (by omega) (by omega) (by omega)
  have h4 := age_first l asked came (min B A)
  have h5 := age_in l asked came (-9223372036854775808)
  have h6 := life_in l came st sh
  rw [wr64_id (n := ageL l asked came (max B A) - ageL l asked came (min B A)) (by unfold I64; omega), wr64_id (n := max B A - min B A) (by unfold I64; omega)]
  exact br_dec (by omega) (br_dec (by omega) (br_dec (by omega) (br_dec (by omega) (br_dec (by omega) (br_dec (by omega) (br_dec (by omega) trivial))))))
theorem en_law (em es ea ep : ByteArray) (d : List Fl) (ek st : Int) (l : List Fl) (k2 : Int) (body : ByteArray) (asked came now n : Int)
    (z1 : em.size ≤ 1048576) (z2 : es.size ≤ 1048576) (z3 : ea.size ≤ 1048576) (z4 : ep.size ≤ 1048576) (hd : d.length ≤ 1048576) (hd2 : ∀ f ∈ d, f.n.length ≤ 1048576 ∧ f.v.length ≤ 1048576) (i1 : I64 ek) (i2 : I64 st) (hl : l.length ≤ 1048576) (hl2 : ∀ f ∈ l, f.n.length ≤ 1048576 ∧ f.v.length ≤ 1048576) (i3 : I64 k2) (z5 : body.size ≤ 1048576) (i4 : I64 asked) (i5 : I64 came) (ia : I64 now) (ib : (Lit.int .u16 n).wf = true) :
    Con Try.prog 7 [.agg ⟨enT ⟨em, es, ea, ep, ek, st, k2, body, asked, came⟩ 0 d.length 1 l.length⟩, .int .i64 now, .int .u16 n] [gRo enF d, gRo enF l] (.bool true) [gRo enF d, gRo enF l] := by
  refine con_vc (E := EtFg) mixed (calls_envT tFg_ok) (lok_envT _ _) (M := noM) lm_none (En_vc ⟨em, es, ea, ep, ek, st, k2, body, asked, came⟩ d l now n) ?_
  have hm : maxLen = 9223372036854775807 := by unfold maxLen; rfl
  have hF : ([.string ⟨#[99, 97, 99, 104, 101, 45, 99, 111, 110, 116, 114, 111, 108]⟩, .string ⟨#[109, 97, 120, 45, 97, 103, 101, 61, 57, 57, 57, 57, 57, 57, 57, 57, 57, 57, 57, 57, 57, 57, 57, 57, 57, 57, 57, 57, 57, 57]⟩, .string ⟨#[97, 103, 101]⟩, .string ⟨#[57, 57, 57, 57, 57, 57, 57, 57, 57, 57, 57, 57, 57, 57, 57, 57, 57, 57, 57, 57]⟩] : List Value) = gC enF eF := rfl
  have sz : ∀ h, TypeInfo.size (EtFg.P.types[32]'h) = 2 := fun h => by kernel_rfl
  simp only [mx1, mn1]
  simp only [ofNat_eq, toNat_cast, Nat.zero_add, Nat.add_zero, Nat.mul_one, List.drop_zero, bCells_len, bCells_drop, bCells_take, bCells_app, bCells_one, bCells_plain, List.length_replicate, List.length_append, List.length_take, List.length_drop, List.take_length, and_true, true_and, and_self, decide_true, List.length_nil, List.length_cons, Nat.sub_zero, dB_mk, dB_ro, List.take_zero, fPl, fLen, fTake, lgR_mk, z_ageR, z_lifeR, decF_gC]
  refine lift_br hd hd2 hl hl2 (fun g => ?_)
  simp only [sz]
  try simp only [Nat.reduceMul, Nat.zero_mul, Nat.one_mul]
  simp only [ov2]
  simp only [tk4, hF, decF_gC, eF_life, eF_age]
  have P : (d.length * 2 ≤ d.length * 2 ∧ l.length * 2 ≤ l.length * 2) ∧ IsF ⟨gC enF d, true, .cells true⟩ d.length ∧ IsF ⟨gC enF l, true, .cells true⟩ l.length ∧ d.length ≤ 9223372036854775807 ∧ l.length ≤ 9223372036854775807 ∧ BgR ⟨gC enF l, true, .cells true⟩ := ⟨⟨Nat.le_refl _, Nat.le_refl _⟩, isF_mk _ _ rfl, isF_mk _ _ rfl, by omega, by omega, bgR_mk _ _ _ (lg_bg g)⟩
  have Q : (4 ≤ (gC enF eF).length ∧ Plain (gC enF eF)) ∧ IsF ⟨[], true, .cells true⟩ 0 ∧ IsF ⟨gC enF eF, true, .cells true⟩ 2 ∧ 0 ≤ maxLen ∧ 2 ≤ maxLen ∧ BgR ⟨gC enF eF, true, .cells true⟩ := ⟨⟨by decide, fPl _⟩, isF_mk [] _ rfl, isF_mk _ _ rfl, by omega, by omega, bgR_mk _ _ _ (lg_bg (by decide))⟩
  have h1 := age_in l asked came now
  have h2 := life_in l came st 4607182418800017408
  have w : IntKind.i64.wrap (lifeL l came st 4607182418800017408 - ageL l asked came now) = lifeL l came st 4607182418800017408 - ageL l asked came now := wr64_id (by unfold I64; omega)
  simp only [w]
  refine ⟨P, P, Q, br_b rfl ⟨Q, br_b rfl ⟨Q, br_b rfl (br_dec (by omega) (br_dec (by omega) trivial))⟩⟩⟩
end Go.Proofs.Ytideeogedleabaa.tk
