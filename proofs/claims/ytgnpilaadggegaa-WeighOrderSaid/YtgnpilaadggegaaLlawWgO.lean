/- The law: the order is an order. -/
import Derived.Test.YtgnpilaadggegaaSz9
import Derived.Test.YtgnpilaadggegaaRows
import Derived.Test.YtgnpilaadggegaaLlawWg
set_option linter.unusedSimpArgs false
set_option linter.unusedVariables false
namespace Go.Proofs.Ytgnpilaadggegaa.fl
open Go Go.Ev Go.Sy Go.RowKit
noncomputable def tO : List EntM := [eRuns, eCk, eEd]
noncomputable abbrev EtO : Env := envT Try.prog tO
theorem Ord_vc (a b c : Nat) (i j k : Int) : mcall EtO noM 60 6 [.float .f64 a, .float .f64 b, .float .f64 c, .agg ⟨[.int .i64 i, .int .i64 j, .int .i64 k]⟩] ⟨mkR (nums 0 []), 0⟩ (retIs 0 (.bool true) []) =
  (br (decide (i ≥ (0 : Int)))
   (br (decide (i ≤ (4 : Int)))
    ((((True ∧ True) ∧ (True ∧ (True ∧ ((0 : Int) ≤ i ∧ i ≤ (4 : Int)))))) ∧
    (br (decide (j ≥ (0 : Int)))
     (br (decide (j ≤ (4 : Int)))
      ((((True ∧ True) ∧ (True ∧ (True ∧ ((0 : Int) ≤ j ∧ j ≤ (4 : Int)))))) ∧
      (br (decide (k ≥ (0 : Int)))
       (br (decide (k ≤ (4 : Int)))
        ((((True ∧ True) ∧ (True ∧ (True ∧ ((0 : Int) ≤ k ∧ k ≤ (4 : Int)))))) ∧
        ((((True ∧ (True ∧ True)) ∧ (True ∧ (True ∧ True)))) ∧
        ((((True ∧ (True ∧ True)) ∧ (True ∧ (True ∧ True)))) ∧
        ((((True ∧ (True ∧ True)) ∧ (True ∧ (True ∧ True)))) ∧
        ((Value.float FloatKind.f64 (edW i) = Value.float FloatKind.f64 (edW i)) ∧
        ((Value.float FloatKind.f64 (edW j) = Value.float FloatKind.f64 (edW j)) ∧
        ((Value.float FloatKind.f64 (edW j) = Value.float FloatKind.f64 (edW j)) ∧
        ((Value.float FloatKind.f64 (edW j) = Value.float FloatKind.f64 (edW j)) ∧
        ((Value.float FloatKind.f64 (edW k) = Value.float FloatKind.f64 (edW k)) ∧
        ((Value.float FloatKind.f64 (edW k) = Value.float FloatKind.f64 (edW k)) ∧
        ((Value.float FloatKind.f64 (edW i) = Value.float FloatKind.f64 (edW i)) ∧
        ((Value.float FloatKind.f64 (edW i) = Value.float FloatKind.f64 (edW i)) ∧
        ((Value.float FloatKind.f64 (edW i) = Value.float FloatKind.f64 (edW i)) ∧
        ((Value.float FloatKind.f64 (edW k) = Value.float FloatKind.f64 (edW k)) ∧
        ((Value.float FloatKind.f64 (edW k) = Value.float FloatKind.f64 (edW k)) ∧
        ((Value.float FloatKind.f64 (edW k) = Value.float FloatKind.f64 (edW k)) ∧
        ((((True ∧ (True ∧ True)) ∧ (True ∧ (True ∧ True)))) ∧
        (br (ck (edW j) (edW i) == IntKind.wrap IntKind.i64 ((0 : Int) - ck (edW i) (edW j)))
         ((((True ∧ (True ∧ True)) ∧ (True ∧ (True ∧ True)))) ∧
         ((Value.float FloatKind.f64 (edW j) = Value.float FloatKind.f64 (edW j)) ∧
         ((Value.float FloatKind.f64 (edW i) = Value.float FloatKind.f64 (edW i)) ∧
         ((Value.float FloatKind.f64 (edW i) = Value.float FloatKind.f64 (edW i)) ∧
         ((Value.float FloatKind.f64 (edW i) = Value.float FloatKind.f64 (edW i)) ∧
         (br (decide (ck (edW i) (edW j) ≤ (0 : Int)))
          (br (!decide (ck (edW j) (edW k) ≤ (0 : Int)))
           (br (decide (ck (edW i) (edW j) < (0 : Int)))
            (br (!decide (ck (edW j) (edW k) ≤ (0 : Int)))
             (br (decide (ck (edW i) (edW j) ≥ (-1 : Int)))
              (br (ck (edW i) (edW i) == (0 : Int))
               (br (decide (ck (edW i) (edW j) ≤ (1 : Int)))
                (((True ∧ (True ∧ (True ∧ True)))) ∧
                ((true = true) ∧
                True))
                ((true = false) ∧
                True))
               ((true = false) ∧
               True))
              (br (ck (edW i) (edW i) == (0 : Int))
               ((true = false) ∧
               True)
               ((true = false) ∧
               True)))
             (br (decide (ck (edW i) (edW j) ≥ (-1 : Int)))
              (br (ck (edW i) (edW i) == (0 : Int))
               (br (decide (ck (edW i) (edW k) < (0 : Int)))
                (br (decide (ck (edW i) (edW j) ≤ (1 : Int)))
                 (((True ∧ (True ∧ (True ∧ True)))) ∧
                 ((true = true) ∧
                 True))
                 ((true = false) ∧
                 True))
                ((true = false) ∧
                True))
               ((true = false) ∧
               True))
              (br (ck (edW i) (edW i) == (0 : Int))
               (br (decide (ck (edW i) (edW k) < (0 : Int)))
                ((true = false) ∧
                True)
                ((true = false) ∧
                True))
               ((true = false) ∧
               True))))
            (br (decide (ck (edW i) (edW j) ≥ (-1 : Int)))
             (br (ck (edW i) (edW i) == (0 : Int))
              (br (decide (ck (edW i) (edW j) ≤ (1 : Int)))
               (((True ∧ (True ∧ (True ∧ True)))) ∧
               ((true = true) ∧
               True))
               ((true = false) ∧
               True))
              ((true = false) ∧
              True))
             (br (ck (edW i) (edW i) == (0 : Int))
              ((true = false) ∧
              True)
              ((true = false) ∧
              True))))
           (br (decide (ck (edW i) (edW j) < (0 : Int)))
            (br (!decide (ck (edW j) (edW k) ≤ (0 : Int)))
             (br (decide (ck (edW i) (edW j) ≥ (-1 : Int)))
              (br (ck (edW i) (edW i) == (0 : Int))
               (br (decide (ck (edW i) (edW k) ≤ (0 : Int)))
                (br (decide (ck (edW i) (edW j) ≤ (1 : Int)))
                 (((True ∧ (True ∧ (True ∧ True)))) ∧
                 ((true = true) ∧
                 True))
                 ((true = false) ∧
                 True))
                ((true = false) ∧
                True))
               ((true = false) ∧
               True))
              (br (ck (edW i) (edW i) == (0 : Int))
               (br (decide (ck (edW i) (edW k) ≤ (0 : Int)))
                ((true = false) ∧
                True)
                ((true = false) ∧
                True))
               ((true = false) ∧
               True)))
             (br (decide (ck (edW i) (edW j) ≥ (-1 : Int)))
              (br (ck (edW i) (edW i) == (0 : Int))
               (br (decide (ck (edW i) (edW k) ≤ (0 : Int)))
                (br (decide (ck (edW i) (edW k) < (0 : Int)))
                 (br (decide (ck (edW i) (edW j) ≤ (1 : Int)))
                  (((True ∧ (True ∧ (True ∧ True)))) ∧
                  ((true = true) ∧
                  True))
                  ((true = false) ∧
                  True))
                 ((true = false) ∧
                 True))
                ((true = false) ∧
                True))
               ((true = false) ∧
               True))
              (br (ck (edW i) (edW i) == (0 : Int))
               (br (decide (ck (edW i) (edW k) ≤ (0 : Int)))
                (br (decide (ck (edW i) (edW k) < (0 : Int)))
                 ((true = false) ∧
                 True)
                 ((true = false) ∧
                 True))
                ((true = false) ∧
                True))
               ((true = false) ∧
               True))))
            (br (decide (ck (edW i) (edW j) ≥ (-1 : Int)))
             (br (ck (edW i) (edW i) == (0 : Int))
              (br (decide (ck (edW i) (edW k) ≤ (0 : Int)))
               (br (decide (ck (edW i) (edW j) ≤ (1 : Int)))
                (((True ∧ (True ∧ (True ∧ True)))) ∧
                ((true = true) ∧
                True))
                ((true = false) ∧
                True))
               ((true = false) ∧
               True))
              ((true = false) ∧
              True))
             (br (ck (edW i) (edW i) == (0 : Int))
              (br (decide (ck (edW i) (edW k) ≤ (0 : Int)))
               ((true = false) ∧
               True)
               ((true = false) ∧
               True))
              ((true = false) ∧
              True)))))
          (br (decide (ck (edW i) (edW j) < (0 : Int)))
           (br (!decide (ck (edW j) (edW k) ≤ (0 : Int)))
            (br (decide (ck (edW i) (edW j) ≥ (-1 : Int)))
             (br (ck (edW i) (edW i) == (0 : Int))
              (br (decide (ck (edW i) (edW j) ≤ (1 : Int)))
               (((True ∧ (True ∧ (True ∧ True)))) ∧
               ((true = true) ∧
               True))
               ((true = false) ∧
               True))
              ((true = false) ∧
              True))
             (br (ck (edW i) (edW i) == (0 : Int))
              ((true = false) ∧
              True)
              ((true = false) ∧
              True)))
            (br (decide (ck (edW i) (edW j) ≥ (-1 : Int)))
             (br (ck (edW i) (edW i) == (0 : Int))
              (br (decide (ck (edW i) (edW k) < (0 : Int)))
               (br (decide (ck (edW i) (edW j) ≤ (1 : Int)))
                (((True ∧ (True ∧ (True ∧ True)))) ∧
                ((true = true) ∧
                True))
                ((true = false) ∧
                True))
               ((true = false) ∧
               True))
              ((true = false) ∧
              True))
             (br (ck (edW i) (edW i) == (0 : Int))
              (br (decide (ck (edW i) (edW k) < (0 : Int)))
               ((true = false) ∧
               True)
               ((true = false) ∧
               True))
              ((true = false) ∧
              True))))
           (br (decide (ck (edW i) (edW j) ≥ (-1 : Int)))
            (br (ck (edW i) (edW i) == (0 : Int))
             (br (decide (ck (edW i) (edW j) ≤ (1 : Int)))
              (((True ∧ (True ∧ (True ∧ True)))) ∧
              ((true = true) ∧
              True))
              ((true = false) ∧
              True))
             ((true = false) ∧
             True))
            (br (ck (edW i) (edW i) == (0 : Int))
             ((true = false) ∧
             True)
             ((true = false) ∧
             True))))))))))
         ((Value.float FloatKind.f64 (edW j) = Value.float FloatKind.f64 (edW j)) ∧
         ((Value.float FloatKind.f64 (edW i) = Value.float FloatKind.f64 (edW i)) ∧
         (br (decide (ck (edW i) (edW j) ≤ (0 : Int)))
          (br (!decide (ck (edW j) (edW k) ≤ (0 : Int)))
           (br (decide (ck (edW i) (edW j) < (0 : Int)))
            (br (!decide (ck (edW j) (edW k) ≤ (0 : Int)))
             (br (decide (ck (edW i) (edW j) ≥ (-1 : Int)))
              ((true = false) ∧
              True)
              ((true = false) ∧
              True))
             (br (decide (ck (edW i) (edW j) ≥ (-1 : Int)))
              ((true = false) ∧
              True)
              ((true = false) ∧
              True)))
            (br (decide (ck (edW i) (edW j) ≥ (-1 : Int)))
             ((true = false) ∧
             True)
             ((true = false) ∧
             True)))
           (br (decide (ck (edW i) (edW j) < (0 : Int)))
            (br (!decide (ck (edW j) (edW k) ≤ (0 : Int)))
             (br (decide (ck (edW i) (edW j) ≥ (-1 : Int)))
              ((true = false) ∧
              True)
              ((true = false) ∧
              True))
             (br (decide (ck (edW i) (edW j) ≥ (-1 : Int)))
              ((true = false) ∧
              True)
              ((true = false) ∧
              True)))
            (br (decide (ck (edW i) (edW j) ≥ (-1 : Int)))
             ((true = false) ∧
             True)
             ((true = false) ∧
             True))))
          (br (decide (ck (edW i) (edW j) < (0 : Int)))
           (br (!decide (ck (edW j) (edW k) ≤ (0 : Int)))
            (br (decide (ck (edW i) (edW j) ≥ (-1 : Int)))
             ((true = false) ∧
             True)
             ((true = false) ∧
             True))
            (br (decide (ck (edW i) (edW j) ≥ (-1 : Int)))
             ((true = false) ∧
             True)
             ((true = false) ∧
             True)))
           (br (decide (ck (edW i) (edW j) ≥ (-1 : Int)))
            ((true = false) ∧
            True)
            ((true = false) ∧
            True))))))))))))))))))))))))
        ((((True ∧ (True ∧ True)) ∧ (True ∧ (True ∧ True)))) ∧
        ((((True ∧ (True ∧ True)) ∧ (True ∧ (True ∧ True)))) ∧
        ((((True ∧ (True ∧ True)) ∧ (True ∧ (True ∧ True)))) ∧
        ((Value.float FloatKind.f64 (edW i) = Value.float FloatKind.f64 (edW i)) ∧
        ((Value.float FloatKind.f64 (edW j) = Value.float FloatKind.f64 (edW j)) ∧
        ((Value.float FloatKind.f64 (edW j) = Value.float FloatKind.f64 (edW j)) ∧
        ((Value.float FloatKind.f64 (edW j) = Value.float FloatKind.f64 (edW j)) ∧
        ((Value.float FloatKind.f64 c = Value.float FloatKind.f64 c) ∧
        ((Value.float FloatKind.f64 c = Value.float FloatKind.f64 c) ∧
        ((Value.float FloatKind.f64 (edW i) = Value.float FloatKind.f64 (edW i)) ∧
        ((Value.float FloatKind.f64 (edW i) = Value.float FloatKind.f64 (edW i)) ∧
        ((Value.float FloatKind.f64 (edW i) = Value.float FloatKind.f64 (edW i)) ∧
        ((Value.float FloatKind.f64 c = Value.float FloatKind.f64 c) ∧
        ((Value.float FloatKind.f64 c = Value.float FloatKind.f64 c) ∧
        ((Value.float FloatKind.f64 c = Value.float FloatKind.f64 c) ∧
        ((((True ∧ (True ∧ True)) ∧ (True ∧ (True ∧ True)))) ∧
        (br (ck (edW j) (edW i) == IntKind.wrap IntKind.i64 ((0 : Int) - ck (edW i) (edW j)))
         ((((True ∧ (True ∧ True)) ∧ (True ∧ (True ∧ True)))) ∧
         ((Value.float FloatKind.f64 (edW j) = Value.float FloatKind.f64 (edW j)) ∧
         ((Value.float FloatKind.f64 (edW i) = Value.float FloatKind.f64 (edW i)) ∧
         ((Value.float FloatKind.f64 (edW i) = Value.float FloatKind.f64 (edW i)) ∧
         ((Value.float FloatKind.f64 (edW i) = Value.float FloatKind.f64 (edW i)) ∧
         (br (decide (ck (edW i) (edW j) ≤ (0 : Int)))
          (br (!decide (ck (edW j) c ≤ (0 : Int)))
           (br (decide (ck (edW i) (edW j) < (0 : Int)))
            (br (!decide (ck (edW j) c ≤ (0 : Int)))
             (br (decide (ck (edW i) (edW j) ≥ (-1 : Int)))
              (br (ck (edW i) (edW i) == (0 : Int))
               (br (decide (ck (edW i) (edW j) ≤ (1 : Int)))
                (((True ∧ (True ∧ (True ∧ True)))) ∧
                ((true = true) ∧
                True))
                ((true = false) ∧
                True))
               ((true = false) ∧
               True))
              (br (ck (edW i) (edW i) == (0 : Int))
               ((true = false) ∧
               True)
               ((true = false) ∧
               True)))
             (br (decide (ck (edW i) (edW j) ≥ (-1 : Int)))
              (br (ck (edW i) (edW i) == (0 : Int))
               (br (decide (ck (edW i) c < (0 : Int)))
                (br (decide (ck (edW i) (edW j) ≤ (1 : Int)))
                 (((True ∧ (True ∧ (True ∧ True)))) ∧
                 ((true = true) ∧
                 True))
                 ((true = false) ∧
                 True))
                ((true = false) ∧
                True))
               ((true = false) ∧
               True))
              (br (ck (edW i) (edW i) == (0 : Int))
               (br (decide (ck (edW i) c < (0 : Int)))
                ((true = false) ∧
                True)
                ((true = false) ∧
                True))
               ((true = false) ∧
               True))))
            (br (decide (ck (edW i) (edW j) ≥ (-1 : Int)))
             (br (ck (edW i) (edW i) == (0 : Int))
              (br (decide (ck (edW i) (edW j) ≤ (1 : Int)))
               (((True ∧ (True ∧ (True ∧ True)))) ∧
               ((true = true) ∧
               True))
               ((true = false) ∧
               True))
              ((true = false) ∧
              True))
             (br (ck (edW i) (edW i) == (0 : Int))
              ((true = false) ∧
              True)
              ((true = false) ∧
              True))))
           (br (decide (ck (edW i) (edW j) < (0 : Int)))
            (br (!decide (ck (edW j) c ≤ (0 : Int)))
             (br (decide (ck (edW i) (edW j) ≥ (-1 : Int)))
              (br (ck (edW i) (edW i) == (0 : Int))
               (br (decide (ck (edW i) c ≤ (0 : Int)))
                (br (decide (ck (edW i) (edW j) ≤ (1 : Int)))
                 (((True ∧ (True ∧ (True ∧ True)))) ∧
                 ((true = true) ∧
                 True))
                 ((true = false) ∧
                 True))
                ((true = false) ∧
                True))
               ((true = false) ∧
               True))
              (br (ck (edW i) (edW i) == (0 : Int))
               (br (decide (ck (edW i) c ≤ (0 : Int)))
                ((true = false) ∧
                True)
                ((true = false) ∧
                True))
               ((true = false) ∧
               True)))
             (br (decide (ck (edW i) (edW j) ≥ (-1 : Int)))
              (br (ck (edW i) (edW i) == (0 : Int))
               (br (decide (ck (edW i) c ≤ (0 : Int)))
                (br (decide (ck (edW i) c < (0 : Int)))
                 (br (decide (ck (edW i) (edW j) ≤ (1 : Int)))
                  (((True ∧ (True ∧ (True ∧ True)))) ∧
                  ((true = true) ∧
                  True))
                  ((true = false) ∧
                  True))
                 ((true = false) ∧
                 True))
                ((true = false) ∧
                True))
               ((true = false) ∧
               True))
              (br (ck (edW i) (edW i) == (0 : Int))
               (br (decide (ck (edW i) c ≤ (0 : Int)))
                (br (decide (ck (edW i) c < (0 : Int)))
                 ((true = false) ∧
                 True)
                 ((true = false) ∧
                 True))
                ((true = false) ∧
                True))
               ((true = false) ∧
               True))))
            (br (decide (ck (edW i) (edW j) ≥ (-1 : Int)))
             (br (ck (edW i) (edW i) == (0 : Int))
              (br (decide (ck (edW i) c ≤ (0 : Int)))
               (br (decide (ck (edW i) (edW j) ≤ (1 : Int)))
                (((True ∧ (True ∧ (True ∧ True)))) ∧
                ((true = true) ∧
                True))
                ((true = false) ∧
                True))
               ((true = false) ∧
               True))
              ((true = false) ∧
              True))
             (br (ck (edW i) (edW i) == (0 : Int))
              (br (decide (ck (edW i) c ≤ (0 : Int)))
               ((true = false) ∧
               True)
               ((true = false) ∧
               True))
              ((true = false) ∧
              True)))))
          (br (decide (ck (edW i) (edW j) < (0 : Int)))
           (br (!decide (ck (edW j) c ≤ (0 : Int)))
            (br (decide (ck (edW i) (edW j) ≥ (-1 : Int)))
             (br (ck (edW i) (edW i) == (0 : Int))
              (br (decide (ck (edW i) (edW j) ≤ (1 : Int)))
               (((True ∧ (True ∧ (True ∧ True)))) ∧
               ((true = true) ∧
               True))
               ((true = false) ∧
               True))
              ((true = false) ∧
              True))
             (br (ck (edW i) (edW i) == (0 : Int))
              ((true = false) ∧
              True)
              ((true = false) ∧
              True)))
            (br (decide (ck (edW i) (edW j) ≥ (-1 : Int)))
             (br (ck (edW i) (edW i) == (0 : Int))
              (br (decide (ck (edW i) c < (0 : Int)))
               (br (decide (ck (edW i) (edW j) ≤ (1 : Int)))
                (((True ∧ (True ∧ (True ∧ True)))) ∧
                ((true = true) ∧
                True))
                ((true = false) ∧
                True))
               ((true = false) ∧
               True))
              ((true = false) ∧
              True))
             (br (ck (edW i) (edW i) == (0 : Int))
              (br (decide (ck (edW i) c < (0 : Int)))
               ((true = false) ∧
               True)
               ((true = false) ∧
               True))
              ((true = false) ∧
              True))))
           (br (decide (ck (edW i) (edW j) ≥ (-1 : Int)))
            (br (ck (edW i) (edW i) == (0 : Int))
             (br (decide (ck (edW i) (edW j) ≤ (1 : Int)))
              (((True ∧ (True ∧ (True ∧ True)))) ∧
              ((true = true) ∧
              True))
              ((true = false) ∧
              True))
             ((true = false) ∧
             True))
            (br (ck (edW i) (edW i) == (0 : Int))
             ((true = false) ∧
             True)
             ((true = false) ∧
             True))))))))))
         ((Value.float FloatKind.f64 (edW j) = Value.float FloatKind.f64 (edW j)) ∧
         ((Value.float FloatKind.f64 (edW i) = Value.float FloatKind.f64 (edW i)) ∧
         (br (decide (ck (edW i) (edW j) ≤ (0 : Int)))
          (br (!decide (ck (edW j) c ≤ (0 : Int)))
           (br (decide (ck (edW i) (edW j) < (0 : Int)))
            (br (!decide (ck (edW j) c ≤ (0 : Int)))
             (br (decide (ck (edW i) (edW j) ≥ (-1 : Int)))
              ((true = false) ∧
              True)
              ((true = false) ∧
              True))
             (br (decide (ck (edW i) (edW j) ≥ (-1 : Int)))
              ((true = false) ∧
              True)
              ((true = false) ∧
              True)))
            (br (decide (ck (edW i) (edW j) ≥ (-1 : Int)))
             ((true = false) ∧
             True)
             ((true = false) ∧
             True)))
           (br (decide (ck (edW i) (edW j) < (0 : Int)))
            (br (!decide (ck (edW j) c ≤ (0 : Int)))
             (br (decide (ck (edW i) (edW j) ≥ (-1 : Int)))
              ((true = false) ∧
              True)
              ((true = false) ∧
              True))
             (br (decide (ck (edW i) (edW j) ≥ (-1 : Int)))
              ((true = false) ∧
              True)
              ((true = false) ∧
              True)))
            (br (decide (ck (edW i) (edW j) ≥ (-1 : Int)))
             ((true = false) ∧
             True)
             ((true = false) ∧
             True))))
          (br (decide (ck (edW i) (edW j) < (0 : Int)))
           (br (!decide (ck (edW j) c ≤ (0 : Int)))
            (br (decide (ck (edW i) (edW j) ≥ (-1 : Int)))
             ((true = false) ∧
             True)
             ((true = false) ∧
             True))
            (br (decide (ck (edW i) (edW j) ≥ (-1 : Int)))
             ((true = false) ∧
             True)
             ((true = false) ∧
             True)))
           (br (decide (ck (edW i) (edW j) ≥ (-1 : Int)))
            ((true = false) ∧
            True)
            ((true = false) ∧
            True))))))))))))))))))))))))
       ((((True ∧ (True ∧ True)) ∧ (True ∧ (True ∧ True)))) ∧
       ((((True ∧ (True ∧ True)) ∧ (True ∧ (True ∧ True)))) ∧
       ((((True ∧ (True ∧ True)) ∧ (True ∧ (True ∧ True)))) ∧
       ((Value.float FloatKind.f64 (edW i) = Value.float FloatKind.f64 (edW i)) ∧
       ((Value.float FloatKind.f64 (edW j) = Value.float FloatKind.f64 (edW j)) ∧
       ((Value.float FloatKind.f64 (edW j) = Value.float FloatKind.f64 (edW j)) ∧
       ((Value.float FloatKind.f64 (edW j) = Value.float FloatKind.f64 (edW j)) ∧
       ((Value.float FloatKind.f64 c = Value.float FloatKind.f64 c) ∧
       ((Value.float FloatKind.f64 c = Value.float FloatKind.f64 c) ∧
       ((Value.float FloatKind.f64 (edW i) = Value.float FloatKind.f64 (edW i)) ∧
       ((Value.float FloatKind.f64 (edW i) = Value.float FloatKind.f64 (edW i)) ∧
       ((Value.float FloatKind.f64 (edW i) = Value.float FloatKind.f64 (edW i)) ∧
       ((Value.float FloatKind.f64 c = Value.float FloatKind.f64 c) ∧
       ((Value.float FloatKind.f64 c = Value.float FloatKind.f64 c) ∧
       ((Value.float FloatKind.f64 c = Value.float FloatKind.f64 c) ∧
       ((((True ∧ (True ∧ True)) ∧ (True ∧ (True ∧ True)))) ∧
       (br (ck (edW j) (edW i) == IntKind.wrap IntKind.i64 ((0 : Int) - ck (edW i) (edW j)))
        ((((True ∧ (True ∧ True)) ∧ (True ∧ (True ∧ True)))) ∧
        ((Value.float FloatKind.f64 (edW j) = Value.float FloatKind.f64 (edW j)) ∧
        ((Value.float FloatKind.f64 (edW i) = Value.float FloatKind.f64 (edW i)) ∧
        ((Value.float FloatKind.f64 (edW i) = Value.float FloatKind.f64 (edW i)) ∧
        ((Value.float FloatKind.f64 (edW i) = Value.float FloatKind.f64 (edW i)) ∧
        (br (decide (ck (edW i) (edW j) ≤ (0 : Int)))
         (br (!decide (ck (edW j) c ≤ (0 : Int)))
          (br (decide (ck (edW i) (edW j) < (0 : Int)))
           (br (!decide (ck (edW j) c ≤ (0 : Int)))
            (br (decide (ck (edW i) (edW j) ≥ (-1 : Int)))
             (br (ck (edW i) (edW i) == (0 : Int))
              (br (decide (ck (edW i) (edW j) ≤ (1 : Int)))
               (((True ∧ (True ∧ (True ∧ True)))) ∧
               ((true = true) ∧
               True))
               ((true = false) ∧
               True))
              ((true = false) ∧
              True))
             (br (ck (edW i) (edW i) == (0 : Int))
              ((true = false) ∧
              True)
              ((true = false) ∧
              True)))
            (br (decide (ck (edW i) (edW j) ≥ (-1 : Int)))
             (br (ck (edW i) (edW i) == (0 : Int))
              (br (decide (ck (edW i) c < (0 : Int)))
               (br (decide (ck (edW i) (edW j) ≤ (1 : Int)))
                (((True ∧ (True ∧ (True ∧ True)))) ∧
                ((true = true) ∧
                True))
                ((true = false) ∧
                True))
               ((true = false) ∧
               True))
              ((true = false) ∧
              True))
             (br (ck (edW i) (edW i) == (0 : Int))
              (br (decide (ck (edW i) c < (0 : Int)))
               ((true = false) ∧
               True)
               ((true = false) ∧
               True))
              ((true = false) ∧
              True))))
           (br (decide (ck (edW i) (edW j) ≥ (-1 : Int)))
            (br (ck (edW i) (edW i) == (0 : Int))
             (br (decide (ck (edW i) (edW j) ≤ (1 : Int)))
              (((True ∧ (True ∧ (True ∧ True)))) ∧
              ((true = true) ∧
              True))
              ((true = false) ∧
              True))
             ((true = false) ∧
             True))
            (br (ck (edW i) (edW i) == (0 : Int))
             ((true = false) ∧
             True)
             ((true = false) ∧
             True))))
          (br (decide (ck (edW i) (edW j) < (0 : Int)))
           (br (!decide (ck (edW j) c ≤ (0 : Int)))
            (br (decide (ck (edW i) (edW j) ≥ (-1 : Int)))
             (br (ck (edW i) (edW i) == (0 : Int))
              (br (decide (ck (edW i) c ≤ (0 : Int)))
               (br (decide (ck (edW i) (edW j) ≤ (1 : Int)))
                (((True ∧ (True ∧ (True ∧ True)))) ∧
                ((true = true) ∧
                True))
                ((true = false) ∧
                True))
               ((true = false) ∧
               True))
              ((true = false) ∧
              True))
             (br (ck (edW i) (edW i) == (0 : Int))
              (br (decide (ck (edW i) c ≤ (0 : Int)))
               ((true = false) ∧
               True)
               ((true = false) ∧
               True))
              ((true = false) ∧
              True)))
            (br (decide (ck (edW i) (edW j) ≥ (-1 : Int)))
             (br (ck (edW i) (edW i) == (0 : Int))
              (br (decide (ck (edW i) c ≤ (0 : Int)))
               (br (decide (ck (edW i) c < (0 : Int)))
                (br (decide (ck (edW i) (edW j) ≤ (1 : Int)))
                 (((True ∧ (True ∧ (True ∧ True)))) ∧
                 ((true = true) ∧
                 True))
                 ((true = false) ∧
                 True))
                ((true = false) ∧
                True))
               ((true = false) ∧
               True))
              ((true = false) ∧
              True))
             (br (ck (edW i) (edW i) == (0 : Int))
              (br (decide (ck (edW i) c ≤ (0 : Int)))
               (br (decide (ck (edW i) c < (0 : Int)))
                ((true = false) ∧
                True)
                ((true = false) ∧
                True))
               ((true = false) ∧
               True))
              ((true = false) ∧
              True))))
           (br (decide (ck (edW i) (edW j) ≥ (-1 : Int)))
            (br (ck (edW i) (edW i) == (0 : Int))
             (br (decide (ck (edW i) c ≤ (0 : Int)))
              (br (decide (ck (edW i) (edW j) ≤ (1 : Int)))
               (((True ∧ (True ∧ (True ∧ True)))) ∧
               ((true = true) ∧
               True))
               ((true = false) ∧
               True))
              ((true = false) ∧
              True))
             ((true = false) ∧
             True))
            (br (ck (edW i) (edW i) == (0 : Int))
             (br (decide (ck (edW i) c ≤ (0 : Int)))
              ((true = false) ∧
              True)
              ((true = false) ∧
              True))
             ((true = false) ∧
             True)))))
         (br (decide (ck (edW i) (edW j) < (0 : Int)))
          (br (!decide (ck (edW j) c ≤ (0 : Int)))
           (br (decide (ck (edW i) (edW j) ≥ (-1 : Int)))
            (br (ck (edW i) (edW i) == (0 : Int))
             (br (decide (ck (edW i) (edW j) ≤ (1 : Int)))
              (((True ∧ (True ∧ (True ∧ True)))) ∧
              ((true = true) ∧
              True))
              ((true = false) ∧
              True))
             ((true = false) ∧
             True))
            (br (ck (edW i) (edW i) == (0 : Int))
             ((true = false) ∧
             True)
             ((true = false) ∧
             True)))
           (br (decide (ck (edW i) (edW j) ≥ (-1 : Int)))
            (br (ck (edW i) (edW i) == (0 : Int))
             (br (decide (ck (edW i) c < (0 : Int)))
              (br (decide (ck (edW i) (edW j) ≤ (1 : Int)))
               (((True ∧ (True ∧ (True ∧ True)))) ∧
               ((true = true) ∧
               True))
               ((true = false) ∧
               True))
              ((true = false) ∧
              True))
             ((true = false) ∧
             True))
            (br (ck (edW i) (edW i) == (0 : Int))
             (br (decide (ck (edW i) c < (0 : Int)))
              ((true = false) ∧
              True)
              ((true = false) ∧
              True))
             ((true = false) ∧
             True))))
          (br (decide (ck (edW i) (edW j) ≥ (-1 : Int)))
           (br (ck (edW i) (edW i) == (0 : Int))
            (br (decide (ck (edW i) (edW j) ≤ (1 : Int)))
             (((True ∧ (True ∧ (True ∧ True)))) ∧
             ((true = true) ∧
             True))
             ((true = false) ∧
             True))
            ((true = false) ∧
            True))
           (br (ck (edW i) (edW i) == (0 : Int))
            ((true = false) ∧
            True)
            ((true = false) ∧
            True))))))))))
        ((Value.float FloatKind.f64 (edW j) = Value.float FloatKind.f64 (edW j)) ∧
        ((Value.float FloatKind.f64 (edW i) = Value.float FloatKind.f64 (edW i)) ∧
        (br (decide (ck (edW i) (edW j) ≤ (0 : Int)))
         (br (!decide (ck (edW j) c ≤ (0 : Int)))
          (br (decide (ck (edW i) (edW j) < (0 : Int)))
           (br (!decide (ck (edW j) c ≤ (0 : Int)))
            (br (decide (ck (edW i) (edW j) ≥ (-1 : Int)))
             ((true = false) ∧
             True)
             ((true = false) ∧
             True))
            (br (decide (ck (edW i) (edW j) ≥ (-1 : Int)))
             ((true = false) ∧
             True)
             ((true = false) ∧
             True)))
           (br (decide (ck (edW i) (edW j) ≥ (-1 : Int)))
            ((true = false) ∧
            True)
            ((true = false) ∧
            True)))
          (br (decide (ck (edW i) (edW j) < (0 : Int)))
           (br (!decide (ck (edW j) c ≤ (0 : Int)))
            (br (decide (ck (edW i) (edW j) ≥ (-1 : Int)))
             ((true = false) ∧
             True)
             ((true = false) ∧
             True))
            (br (decide (ck (edW i) (edW j) ≥ (-1 : Int)))
             ((true = false) ∧
             True)
             ((true = false) ∧
             True)))
           (br (decide (ck (edW i) (edW j) ≥ (-1 : Int)))
            ((true = false) ∧
            True)
            ((true = false) ∧
            True))))
         (br (decide (ck (edW i) (edW j) < (0 : Int)))
          (br (!decide (ck (edW j) c ≤ (0 : Int)))
           (br (decide (ck (edW i) (edW j) ≥ (-1 : Int)))
            ((true = false) ∧
            True)
            ((true = false) ∧
            True))
           (br (decide (ck (edW i) (edW j) ≥ (-1 : Int)))
            ((true = false) ∧
            True)
            ((true = false) ∧
            True)))
          (br (decide (ck (edW i) (edW j) ≥ (-1 : Int)))
           ((true = false) ∧
           True)
           ((true = false) ∧
           True)))))))))))))))))))))))))
      (br (decide (k ≥ (0 : Int)))
       (br (decide (k ≤ (4 : Int)))
        ((((True ∧ True) ∧ (True ∧ (True ∧ ((0 : Int) ≤ k ∧ k ≤ (4 : Int)))))) ∧
        ((((True ∧ (True ∧ True)) ∧ (True ∧ (True ∧ True)))) ∧
        ((((True ∧ (True ∧ True)) ∧ (True ∧ (True ∧ True)))) ∧
        ((((True ∧ (True ∧ True)) ∧ (True ∧ (True ∧ True)))) ∧
        ((Value.float FloatKind.f64 (edW i) = Value.float FloatKind.f64 (edW i)) ∧
        ((Value.float FloatKind.f64 b = Value.float FloatKind.f64 b) ∧
        ((Value.float FloatKind.f64 b = Value.float FloatKind.f64 b) ∧
        ((Value.float FloatKind.f64 b = Value.float FloatKind.f64 b) ∧
        ((Value.float FloatKind.f64 (edW k) = Value.float FloatKind.f64 (edW k)) ∧
        ((Value.float FloatKind.f64 (edW k) = Value.float FloatKind.f64 (edW k)) ∧
        ((Value.float FloatKind.f64 (edW i) = Value.float FloatKind.f64 (edW i)) ∧
        ((Value.float FloatKind.f64 (edW i) = Value.float FloatKind.f64 (edW i)) ∧
        ((Value.float FloatKind.f64 (edW i) = Value.float FloatKind.f64 (edW i)) ∧
        ((Value.float FloatKind.f64 (edW k) = Value.float FloatKind.f64 (edW k)) ∧
        ((Value.float FloatKind.f64 (edW k) = Value.float FloatKind.f64 (edW k)) ∧
        ((Value.float FloatKind.f64 (edW k) = Value.float FloatKind.f64 (edW k)) ∧
        ((((True ∧ (True ∧ True)) ∧ (True ∧ (True ∧ True)))) ∧
        (br (ck b (edW i) == IntKind.wrap IntKind.i64 ((0 : Int) - ck (edW i) b))
         ((((True ∧ (True ∧ True)) ∧ (True ∧ (True ∧ True)))) ∧
         ((Value.float FloatKind.f64 b = Value.float FloatKind.f64 b) ∧
         ((Value.float FloatKind.f64 (edW i) = Value.float FloatKind.f64 (edW i)) ∧
         ((Value.float FloatKind.f64 (edW i) = Value.float FloatKind.f64 (edW i)) ∧
         ((Value.float FloatKind.f64 (edW i) = Value.float FloatKind.f64 (edW i)) ∧
         (br (decide (ck (edW i) b ≤ (0 : Int)))
          (br (!decide (ck b (edW k) ≤ (0 : Int)))
           (br (decide (ck (edW i) b < (0 : Int)))
            (br (!decide (ck b (edW k) ≤ (0 : Int)))
             (br (decide (ck (edW i) b ≥ (-1 : Int)))
              (br (ck (edW i) (edW i) == (0 : Int))
               (br (decide (ck (edW i) b ≤ (1 : Int)))
                (((True ∧ (True ∧ (True ∧ True)))) ∧
                ((true = true) ∧
                True))
                ((true = false) ∧
                True))
               ((true = false) ∧
               True))
              (br (ck (edW i) (edW i) == (0 : Int))
               ((true = false) ∧
               True)
               ((true = false) ∧
               True)))
             (br (decide (ck (edW i) b ≥ (-1 : Int)))
              (br (ck (edW i) (edW i) == (0 : Int))
               (br (decide (ck (edW i) (edW k) < (0 : Int)))
                (br (decide (ck (edW i) b ≤ (1 : Int)))
                 (((True ∧ (True ∧ (True ∧ True)))) ∧
                 ((true = true) ∧
                 True))
                 ((true = false) ∧
                 True))
                ((true = false) ∧
                True))
               ((true = false) ∧
               True))
              (br (ck (edW i) (edW i) == (0 : Int))
               (br (decide (ck (edW i) (edW k) < (0 : Int)))
                ((true = false) ∧
                True)
                ((true = false) ∧
                True))
               ((true = false) ∧
               True))))
            (br (decide (ck (edW i) b ≥ (-1 : Int)))
             (br (ck (edW i) (edW i) == (0 : Int))
              (br (decide (ck (edW i) b ≤ (1 : Int)))
               (((True ∧ (True ∧ (True ∧ True)))) ∧
               ((true = true) ∧
               True))
               ((true = false) ∧
               True))
              ((true = false) ∧
              True))
             (br (ck (edW i) (edW i) == (0 : Int))
              ((true = false) ∧
              True)
              ((true = false) ∧
              True))))
           (br (decide (ck (edW i) b < (0 : Int)))
            (br (!decide (ck b (edW k) ≤ (0 : Int)))
             (br (decide (ck (edW i) b ≥ (-1 : Int)))
              (br (ck (edW i) (edW i) == (0 : Int))
               (br (decide (ck (edW i) (edW k) ≤ (0 : Int)))
                (br (decide (ck (edW i) b ≤ (1 : Int)))
                 (((True ∧ (True ∧ (True ∧ True)))) ∧
                 ((true = true) ∧
                 True))
                 ((true = false) ∧
                 True))
                ((true = false) ∧
                True))
               ((true = false) ∧
               True))
              (br (ck (edW i) (edW i) == (0 : Int))
               (br (decide (ck (edW i) (edW k) ≤ (0 : Int)))
                ((true = false) ∧
                True)
                ((true = false) ∧
                True))
               ((true = false) ∧
               True)))
             (br (decide (ck (edW i) b ≥ (-1 : Int)))
              (br (ck (edW i) (edW i) == (0 : Int))
               (br (decide (ck (edW i) (edW k) ≤ (0 : Int)))
                (br (decide (ck (edW i) (edW k) < (0 : Int)))
                 (br (decide (ck (edW i) b ≤ (1 : Int)))
                  (((True ∧ (True ∧ (True ∧ True)))) ∧
                  ((true = true) ∧
                  True))
                  ((true = false) ∧
                  True))
                 ((true = false) ∧
                 True))
                ((true = false) ∧
                True))
               ((true = false) ∧
               True))
              (br (ck (edW i) (edW i) == (0 : Int))
               (br (decide (ck (edW i) (edW k) ≤ (0 : Int)))
                (br (decide (ck (edW i) (edW k) < (0 : Int)))
                 ((true = false) ∧
                 True)
                 ((true = false) ∧
                 True))
                ((true = false) ∧
                True))
               ((true = false) ∧
               True))))
            (br (decide (ck (edW i) b ≥ (-1 : Int)))
             (br (ck (edW i) (edW i) == (0 : Int))
              (br (decide (ck (edW i) (edW k) ≤ (0 : Int)))
               (br (decide (ck (edW i) b ≤ (1 : Int)))
                (((True ∧ (True ∧ (True ∧ True)))) ∧
                ((true = true) ∧
                True))
                ((true = false) ∧
                True))
               ((true = false) ∧
               True))
              ((true = false) ∧
              True))
             (br (ck (edW i) (edW i) == (0 : Int))
              (br (decide (ck (edW i) (edW k) ≤ (0 : Int)))
               ((true = false) ∧
               True)
               ((true = false) ∧
               True))
              ((true = false) ∧
              True)))))
          (br (decide (ck (edW i) b < (0 : Int)))
           (br (!decide (ck b (edW k) ≤ (0 : Int)))
            (br (decide (ck (edW i) b ≥ (-1 : Int)))
             (br (ck (edW i) (edW i) == (0 : Int))
              (br (decide (ck (edW i) b ≤ (1 : Int)))
               (((True ∧ (True ∧ (True ∧ True)))) ∧
               ((true = true) ∧
               True))
               ((true = false) ∧
               True))
              ((true = false) ∧
              True))
             (br (ck (edW i) (edW i) == (0 : Int))
              ((true = false) ∧
              True)
              ((true = false) ∧
              True)))
            (br (decide (ck (edW i) b ≥ (-1 : Int)))
             (br (ck (edW i) (edW i) == (0 : Int))
              (br (decide (ck (edW i) (edW k) < (0 : Int)))
               (br (decide (ck (edW i) b ≤ (1 : Int)))
                (((True ∧ (True ∧ (True ∧ True)))) ∧
                ((true = true) ∧
                True))
                ((true = false) ∧
                True))
               ((true = false) ∧
               True))
              ((true = false) ∧
              True))
             (br (ck (edW i) (edW i) == (0 : Int))
              (br (decide (ck (edW i) (edW k) < (0 : Int)))
               ((true = false) ∧
               True)
               ((true = false) ∧
               True))
              ((true = false) ∧
              True))))
           (br (decide (ck (edW i) b ≥ (-1 : Int)))
            (br (ck (edW i) (edW i) == (0 : Int))
             (br (decide (ck (edW i) b ≤ (1 : Int)))
              (((True ∧ (True ∧ (True ∧ True)))) ∧
              ((true = true) ∧
              True))
              ((true = false) ∧
              True))
             ((true = false) ∧
             True))
            (br (ck (edW i) (edW i) == (0 : Int))
             ((true = false) ∧
             True)
             ((true = false) ∧
             True))))))))))
         ((Value.float FloatKind.f64 b = Value.float FloatKind.f64 b) ∧
         ((Value.float FloatKind.f64 (edW i) = Value.float FloatKind.f64 (edW i)) ∧
         (br (decide (ck (edW i) b ≤ (0 : Int)))
          (br (!decide (ck b (edW k) ≤ (0 : Int)))
           (br (decide (ck (edW i) b < (0 : Int)))
            (br (!decide (ck b (edW k) ≤ (0 : Int)))
             (br (decide (ck (edW i) b ≥ (-1 : Int)))
              ((true = false) ∧
              True)
              ((true = false) ∧
              True))
             (br (decide (ck (edW i) b ≥ (-1 : Int)))
              ((true = false) ∧
              True)
              ((true = false) ∧
              True)))
            (br (decide (ck (edW i) b ≥ (-1 : Int)))
             ((true = false) ∧
             True)
             ((true = false) ∧
             True)))
           (br (decide (ck (edW i) b < (0 : Int)))
            (br (!decide (ck b (edW k) ≤ (0 : Int)))
             (br (decide (ck (edW i) b ≥ (-1 : Int)))
              ((true = false) ∧
              True)
              ((true = false) ∧
              True))
             (br (decide (ck (edW i) b ≥ (-1 : Int)))
              ((true = false) ∧
              True)
              ((true = false) ∧
              True)))
            (br (decide (ck (edW i) b ≥ (-1 : Int)))
             ((true = false) ∧
             True)
             ((true = false) ∧
             True))))
          (br (decide (ck (edW i) b < (0 : Int)))
           (br (!decide (ck b (edW k) ≤ (0 : Int)))
            (br (decide (ck (edW i) b ≥ (-1 : Int)))
             ((true = false) ∧
             True)
             ((true = false) ∧
             True))
            (br (decide (ck (edW i) b ≥ (-1 : Int)))
             ((true = false) ∧
             True)
             ((true = false) ∧
             True)))
           (br (decide (ck (edW i) b ≥ (-1 : Int)))
            ((true = false) ∧
            True)
            ((true = false) ∧
            True))))))))))))))))))))))))
        ((((True ∧ (True ∧ True)) ∧ (True ∧ (True ∧ True)))) ∧
        ((((True ∧ (True ∧ True)) ∧ (True ∧ (True ∧ True)))) ∧
        ((((True ∧ (True ∧ True)) ∧ (True ∧ (True ∧ True)))) ∧
        ((Value.float FloatKind.f64 (edW i) = Value.float FloatKind.f64 (edW i)) ∧
        ((Value.float FloatKind.f64 b = Value.float FloatKind.f64 b) ∧
        ((Value.float FloatKind.f64 b = Value.float FloatKind.f64 b) ∧
        ((Value.float FloatKind.f64 b = Value.float FloatKind.f64 b) ∧
        ((Value.float FloatKind.f64 c = Value.float FloatKind.f64 c) ∧
        ((Value.float FloatKind.f64 c = Value.float FloatKind.f64 c) ∧
        ((Value.float FloatKind.f64 (edW i) = Value.float FloatKind.f64 (edW i)) ∧
        ((Value.float FloatKind.f64 (edW i) = Value.float FloatKind.f64 (edW i)) ∧
        ((Value.float FloatKind.f64 (edW i) = Value.float FloatKind.f64 (edW i)) ∧
        ((Value.float FloatKind.f64 c = Value.float FloatKind.f64 c) ∧
        ((Value.float FloatKind.f64 c = Value.float FloatKind.f64 c) ∧
        ((Value.float FloatKind.f64 c = Value.float FloatKind.f64 c) ∧
        ((((True ∧ (True ∧ True)) ∧ (True ∧ (True ∧ True)))) ∧
        (br (ck b (edW i) == IntKind.wrap IntKind.i64 ((0 : Int) - ck (edW i) b))
         ((((True ∧ (True ∧ True)) ∧ (True ∧ (True ∧ True)))) ∧
         ((Value.float FloatKind.f64 b = Value.float FloatKind.f64 b) ∧
         ((Value.float FloatKind.f64 (edW i) = Value.float FloatKind.f64 (edW i)) ∧
         ((Value.float FloatKind.f64 (edW i) = Value.float FloatKind.f64 (edW i)) ∧
         ((Value.float FloatKind.f64 (edW i) = Value.float FloatKind.f64 (edW i)) ∧
         (br (decide (ck (edW i) b ≤ (0 : Int)))
          (br (!decide (ck b c ≤ (0 : Int)))
           (br (decide (ck (edW i) b < (0 : Int)))
            (br (!decide (ck b c ≤ (0 : Int)))
             (br (decide (ck (edW i) b ≥ (-1 : Int)))
              (br (ck (edW i) (edW i) == (0 : Int))
               (br (decide (ck (edW i) b ≤ (1 : Int)))
                (((True ∧ (True ∧ (True ∧ True)))) ∧
                ((true = true) ∧
                True))
                ((true = false) ∧
                True))
               ((true = false) ∧
               True))
              (br (ck (edW i) (edW i) == (0 : Int))
               ((true = false) ∧
               True)
               ((true = false) ∧
               True)))
             (br (decide (ck (edW i) b ≥ (-1 : Int)))
              (br (ck (edW i) (edW i) == (0 : Int))
               (br (decide (ck (edW i) c < (0 : Int)))
                (br (decide (ck (edW i) b ≤ (1 : Int)))
                 (((True ∧ (True ∧ (True ∧ True)))) ∧
                 ((true = true) ∧
                 True))
                 ((true = false) ∧
                 True))
                ((true = false) ∧
                True))
               ((true = false) ∧
               True))
              (br (ck (edW i) (edW i) == (0 : Int))
               (br (decide (ck (edW i) c < (0 : Int)))
                ((true = false) ∧
                True)
                ((true = false) ∧
                True))
               ((true = false) ∧
               True))))
            (br (decide (ck (edW i) b ≥ (-1 : Int)))
             (br (ck (edW i) (edW i) == (0 : Int))
              (br (decide (ck (edW i) b ≤ (1 : Int)))
               (((True ∧ (True ∧ (True ∧ True)))) ∧
               ((true = true) ∧
               True))
               ((true = false) ∧
               True))
              ((true = false) ∧
              True))
             (br (ck (edW i) (edW i) == (0 : Int))
              ((true = false) ∧
              True)
              ((true = false) ∧
              True))))
           (br (decide (ck (edW i) b < (0 : Int)))
            (br (!decide (ck b c ≤ (0 : Int)))
             (br (decide (ck (edW i) b ≥ (-1 : Int)))
              (br (ck (edW i) (edW i) == (0 : Int))
               (br (decide (ck (edW i) c ≤ (0 : Int)))
                (br (decide (ck (edW i) b ≤ (1 : Int)))
                 (((True ∧ (True ∧ (True ∧ True)))) ∧
                 ((true = true) ∧
                 True))
                 ((true = false) ∧
                 True))
                ((true = false) ∧
                True))
               ((true = false) ∧
               True))
              (br (ck (edW i) (edW i) == (0 : Int))
               (br (decide (ck (edW i) c ≤ (0 : Int)))
                ((true = false) ∧
                True)
                ((true = false) ∧
                True))
               ((true = false) ∧
               True)))
             (br (decide (ck (edW i) b ≥ (-1 : Int)))
              (br (ck (edW i) (edW i) == (0 : Int))
               (br (decide (ck (edW i) c ≤ (0 : Int)))
                (br (decide (ck (edW i) c < (0 : Int)))
                 (br (decide (ck (edW i) b ≤ (1 : Int)))
                  (((True ∧ (True ∧ (True ∧ True)))) ∧
                  ((true = true) ∧
                  True))
                  ((true = false) ∧
                  True))
                 ((true = false) ∧
                 True))
                ((true = false) ∧
                True))
               ((true = false) ∧
               True))
              (br (ck (edW i) (edW i) == (0 : Int))
               (br (decide (ck (edW i) c ≤ (0 : Int)))
                (br (decide (ck (edW i) c < (0 : Int)))
                 ((true = false) ∧
                 True)
                 ((true = false) ∧
                 True))
                ((true = false) ∧
                True))
               ((true = false) ∧
               True))))
            (br (decide (ck (edW i) b ≥ (-1 : Int)))
             (br (ck (edW i) (edW i) == (0 : Int))
              (br (decide (ck (edW i) c ≤ (0 : Int)))
               (br (decide (ck (edW i) b ≤ (1 : Int)))
                (((True ∧ (True ∧ (True ∧ True)))) ∧
                ((true = true) ∧
                True))
                ((true = false) ∧
                True))
               ((true = false) ∧
               True))
              ((true = false) ∧
              True))
             (br (ck (edW i) (edW i) == (0 : Int))
              (br (decide (ck (edW i) c ≤ (0 : Int)))
               ((true = false) ∧
               True)
               ((true = false) ∧
               True))
              ((true = false) ∧
              True)))))
          (br (decide (ck (edW i) b < (0 : Int)))
           (br (!decide (ck b c ≤ (0 : Int)))
            (br (decide (ck (edW i) b ≥ (-1 : Int)))
             (br (ck (edW i) (edW i) == (0 : Int))
              (br (decide (ck (edW i) b ≤ (1 : Int)))
               (((True ∧ (True ∧ (True ∧ True)))) ∧
               ((true = true) ∧
               True))
               ((true = false) ∧
               True))
              ((true = false) ∧
              True))
             (br (ck (edW i) (edW i) == (0 : Int))
              ((true = false) ∧
              True)
              ((true = false) ∧
              True)))
            (br (decide (ck (edW i) b ≥ (-1 : Int)))
             (br (ck (edW i) (edW i) == (0 : Int))
              (br (decide (ck (edW i) c < (0 : Int)))
               (br (decide (ck (edW i) b ≤ (1 : Int)))
                (((True ∧ (True ∧ (True ∧ True)))) ∧
                ((true = true) ∧
                True))
                ((true = false) ∧
                True))
               ((true = false) ∧
               True))
              ((true = false) ∧
              True))
             (br (ck (edW i) (edW i) == (0 : Int))
              (br (decide (ck (edW i) c < (0 : Int)))
               ((true = false) ∧
               True)
               ((true = false) ∧
               True))
              ((true = false) ∧
              True))))
           (br (decide (ck (edW i) b ≥ (-1 : Int)))
            (br (ck (edW i) (edW i) == (0 : Int))
             (br (decide (ck (edW i) b ≤ (1 : Int)))
              (((True ∧ (True ∧ (True ∧ True)))) ∧
              ((true = true) ∧
              True))
              ((true = false) ∧
              True))
             ((true = false) ∧
             True))
            (br (ck (edW i) (edW i) == (0 : Int))
             ((true = false) ∧
             True)
             ((true = false) ∧
             True))))))))))
         ((Value.float FloatKind.f64 b = Value.float FloatKind.f64 b) ∧
         ((Value.float FloatKind.f64 (edW i) = Value.float FloatKind.f64 (edW i)) ∧
         (br (decide (ck (edW i) b ≤ (0 : Int)))
          (br (!decide (ck b c ≤ (0 : Int)))
           (br (decide (ck (edW i) b < (0 : Int)))
            (br (!decide (ck b c ≤ (0 : Int)))
             (br (decide (ck (edW i) b ≥ (-1 : Int)))
              ((true = false) ∧
              True)
              ((true = false) ∧
              True))
             (br (decide (ck (edW i) b ≥ (-1 : Int)))
              ((true = false) ∧
              True)
              ((true = false) ∧
              True)))
            (br (decide (ck (edW i) b ≥ (-1 : Int)))
             ((true = false) ∧
             True)
             ((true = false) ∧
             True)))
           (br (decide (ck (edW i) b < (0 : Int)))
            (br (!decide (ck b c ≤ (0 : Int)))
             (br (decide (ck (edW i) b ≥ (-1 : Int)))
              ((true = false) ∧
              True)
              ((true = false) ∧
              True))
             (br (decide (ck (edW i) b ≥ (-1 : Int)))
              ((true = false) ∧
              True)
              ((true = false) ∧
              True)))
            (br (decide (ck (edW i) b ≥ (-1 : Int)))
             ((true = false) ∧
             True)
             ((true = false) ∧
             True))))
          (br (decide (ck (edW i) b < (0 : Int)))
           (br (!decide (ck b c ≤ (0 : Int)))
            (br (decide (ck (edW i) b ≥ (-1 : Int)))
             ((true = false) ∧
             True)
             ((true = false) ∧
             True))
            (br (decide (ck (edW i) b ≥ (-1 : Int)))
             ((true = false) ∧
             True)
             ((true = false) ∧
             True)))
           (br (decide (ck (edW i) b ≥ (-1 : Int)))
            ((true = false) ∧
            True)
            ((true = false) ∧
            True))))))))))))))))))))))))
       ((((True ∧ (True ∧ True)) ∧ (True ∧ (True ∧ True)))) ∧
       ((((True ∧ (True ∧ True)) ∧ (True ∧ (True ∧ True)))) ∧
       ((((True ∧ (True ∧ True)) ∧ (True ∧ (True ∧ True)))) ∧
       ((Value.float FloatKind.f64 (edW i) = Value.float FloatKind.f64 (edW i)) ∧
       ((Value.float FloatKind.f64 b = Value.float FloatKind.f64 b) ∧
       ((Value.float FloatKind.f64 b = Value.float FloatKind.f64 b) ∧
       ((Value.float FloatKind.f64 b = Value.float FloatKind.f64 b) ∧
       ((Value.float FloatKind.f64 c = Value.float FloatKind.f64 c) ∧
       ((Value.float FloatKind.f64 c = Value.float FloatKind.f64 c) ∧
       ((Value.float FloatKind.f64 (edW i) = Value.float FloatKind.f64 (edW i)) ∧
       ((Value.float FloatKind.f64 (edW i) = Value.float FloatKind.f64 (edW i)) ∧
       ((Value.float FloatKind.f64 (edW i) = Value.float FloatKind.f64 (edW i)) ∧
       ((Value.float FloatKind.f64 c = Value.float FloatKind.f64 c) ∧
       ((Value.float FloatKind.f64 c = Value.float FloatKind.f64 c) ∧
       ((Value.float FloatKind.f64 c = Value.float FloatKind.f64 c) ∧
       ((((True ∧ (True ∧ True)) ∧ (True ∧ (True ∧ True)))) ∧
       (br (ck b (edW i) == IntKind.wrap IntKind.i64 ((0 : Int) - ck (edW i) b))
        ((((True ∧ (True ∧ True)) ∧ (True ∧ (True ∧ True)))) ∧
        ((Value.float FloatKind.f64 b = Value.float FloatKind.f64 b) ∧
        ((Value.float FloatKind.f64 (edW i) = Value.float FloatKind.f64 (edW i)) ∧
        ((Value.float FloatKind.f64 (edW i) = Value.float FloatKind.f64 (edW i)) ∧
        ((Value.float FloatKind.f64 (edW i) = Value.float FloatKind.f64 (edW i)) ∧
        (br (decide (ck (edW i) b ≤ (0 : Int)))
         (br (!decide (ck b c ≤ (0 : Int)))
          (br (decide (ck (edW i) b < (0 : Int)))
           (br (!decide (ck b c ≤ (0 : Int)))
            (br (decide (ck (edW i) b ≥ (-1 : Int)))
             (br (ck (edW i) (edW i) == (0 : Int))
              (br (decide (ck (edW i) b ≤ (1 : Int)))
               (((True ∧ (True ∧ (True ∧ True)))) ∧
               ((true = true) ∧
               True))
               ((true = false) ∧
               True))
              ((true = false) ∧
              True))
             (br (ck (edW i) (edW i) == (0 : Int))
              ((true = false) ∧
              True)
              ((true = false) ∧
              True)))
            (br (decide (ck (edW i) b ≥ (-1 : Int)))
             (br (ck (edW i) (edW i) == (0 : Int))
              (br (decide (ck (edW i) c < (0 : Int)))
               (br (decide (ck (edW i) b ≤ (1 : Int)))
                (((True ∧ (True ∧ (True ∧ True)))) ∧
                ((true = true) ∧
                True))
                ((true = false) ∧
                True))
               ((true = false) ∧
               True))
              ((true = false) ∧
              True))
             (br (ck (edW i) (edW i) == (0 : Int))
              (br (decide (ck (edW i) c < (0 : Int)))
               ((true = false) ∧
               True)
               ((true = false) ∧
               True))
              ((true = false) ∧
              True))))
           (br (decide (ck (edW i) b ≥ (-1 : Int)))
            (br (ck (edW i) (edW i) == (0 : Int))
             (br (decide (ck (edW i) b ≤ (1 : Int)))
              (((True ∧ (True ∧ (True ∧ True)))) ∧
              ((true = true) ∧
              True))
              ((true = false) ∧
              True))
             ((true = false) ∧
             True))
            (br (ck (edW i) (edW i) == (0 : Int))
             ((true = false) ∧
             True)
             ((true = false) ∧
             True))))
          (br (decide (ck (edW i) b < (0 : Int)))
           (br (!decide (ck b c ≤ (0 : Int)))
            (br (decide (ck (edW i) b ≥ (-1 : Int)))
             (br (ck (edW i) (edW i) == (0 : Int))
              (br (decide (ck (edW i) c ≤ (0 : Int)))
               (br (decide (ck (edW i) b ≤ (1 : Int)))
                (((True ∧ (True ∧ (True ∧ True)))) ∧
                ((true = true) ∧
                True))
                ((true = false) ∧
                True))
               ((true = false) ∧
               True))
              ((true = false) ∧
              True))
             (br (ck (edW i) (edW i) == (0 : Int))
              (br (decide (ck (edW i) c ≤ (0 : Int)))
               ((true = false) ∧
               True)
               ((true = false) ∧
               True))
              ((true = false) ∧
              True)))
            (br (decide (ck (edW i) b ≥ (-1 : Int)))
             (br (ck (edW i) (edW i) == (0 : Int))
              (br (decide (ck (edW i) c ≤ (0 : Int)))
               (br (decide (ck (edW i) c < (0 : Int)))
                (br (decide (ck (edW i) b ≤ (1 : Int)))
                 (((True ∧ (True ∧ (True ∧ True)))) ∧
                 ((true = true) ∧
                 True))
                 ((true = false) ∧
                 True))
                ((true = false) ∧
                True))
               ((true = false) ∧
               True))
              ((true = false) ∧
              True))
             (br (ck (edW i) (edW i) == (0 : Int))
              (br (decide (ck (edW i) c ≤ (0 : Int)))
               (br (decide (ck (edW i) c < (0 : Int)))
                ((true = false) ∧
                True)
                ((true = false) ∧
                True))
               ((true = false) ∧
               True))
              ((true = false) ∧
              True))))
           (br (decide (ck (edW i) b ≥ (-1 : Int)))
            (br (ck (edW i) (edW i) == (0 : Int))
             (br (decide (ck (edW i) c ≤ (0 : Int)))
              (br (decide (ck (edW i) b ≤ (1 : Int)))
               (((True ∧ (True ∧ (True ∧ True)))) ∧
               ((true = true) ∧
               True))
               ((true = false) ∧
               True))
              ((true = false) ∧
              True))
             ((true = false) ∧
             True))
            (br (ck (edW i) (edW i) == (0 : Int))
             (br (decide (ck (edW i) c ≤ (0 : Int)))
              ((true = false) ∧
              True)
              ((true = false) ∧
              True))
             ((true = false) ∧
             True)))))
         (br (decide (ck (edW i) b < (0 : Int)))
          (br (!decide (ck b c ≤ (0 : Int)))
           (br (decide (ck (edW i) b ≥ (-1 : Int)))
            (br (ck (edW i) (edW i) == (0 : Int))
             (br (decide (ck (edW i) b ≤ (1 : Int)))
              (((True ∧ (True ∧ (True ∧ True)))) ∧
              ((true = true) ∧
              True))
              ((true = false) ∧
              True))
             ((true = false) ∧
             True))
            (br (ck (edW i) (edW i) == (0 : Int))
             ((true = false) ∧
             True)
             ((true = false) ∧
             True)))
           (br (decide (ck (edW i) b ≥ (-1 : Int)))
            (br (ck (edW i) (edW i) == (0 : Int))
             (br (decide (ck (edW i) c < (0 : Int)))
              (br (decide (ck (edW i) b ≤ (1 : Int)))
               (((True ∧ (True ∧ (True ∧ True)))) ∧
               ((true = true) ∧
               True))
               ((true = false) ∧
               True))
              ((true = false) ∧
              True))
             ((true = false) ∧
             True))
            (br (ck (edW i) (edW i) == (0 : Int))
             (br (decide (ck (edW i) c < (0 : Int)))
              ((true = false) ∧
              True)
              ((true = false) ∧
              True))
             ((true = false) ∧
             True))))
          (br (decide (ck (edW i) b ≥ (-1 : Int)))
           (br (ck (edW i) (edW i) == (0 : Int))
            (br (decide (ck (edW i) b ≤ (1 : Int)))
             (((True ∧ (True ∧ (True ∧ True)))) ∧
             ((true = true) ∧
             True))
             ((true = false) ∧
             True))
            ((true = false) ∧
            True))
           (br (ck (edW i) (edW i) == (0 : Int))
            ((true = false) ∧
            True)
            ((true = false) ∧
            True))))))))))
        ((Value.float FloatKind.f64 b = Value.float FloatKind.f64 b) ∧
        ((Value.float FloatKind.f64 (edW i) = Value.float FloatKind.f64 (edW i)) ∧
        (br (decide (ck (edW i) b ≤ (0 : Int)))
         (br (!decide (ck b c ≤ (0 : Int)))
          (br (decide (ck (edW i) b < (0 : Int)))
           (br (!decide (ck b c ≤ (0 : Int)))
            (br (decide (ck (edW i) b ≥ (-1 : Int)))
             ((true = false) ∧
             True)
             ((true = false) ∧
             True))
            (br (decide (ck (edW i) b ≥ (-1 : Int)))
             ((true = false) ∧
             True)
             ((true = false) ∧
             True)))
           (br (decide (ck (edW i) b ≥ (-1 : Int)))
            ((true = false) ∧
            True)
            ((true = false) ∧
            True)))
          (br (decide (ck (edW i) b < (0 : Int)))
           (br (!decide (ck b c ≤ (0 : Int)))
            (br (decide (ck (edW i) b ≥ (-1 : Int)))
             ((true = false) ∧
             True)
             ((true = false) ∧
             True))
            (br (decide (ck (edW i) b ≥ (-1 : Int)))
             ((true = false) ∧
             True)
             ((true = false) ∧
             True)))
           (br (decide (ck (edW i) b ≥ (-1 : Int)))
            ((true = false) ∧
            True)
            ((true = false) ∧
            True))))
         (br (decide (ck (edW i) b < (0 : Int)))
          (br (!decide (ck b c ≤ (0 : Int)))
           (br (decide (ck (edW i) b ≥ (-1 : Int)))
            ((true = false) ∧
            True)
            ((true = false) ∧
            True))
           (br (decide (ck (edW i) b ≥ (-1 : Int)))
            ((true = false) ∧
            True)
            ((true = false) ∧
            True)))
          (br (decide (ck (edW i) b ≥ (-1 : Int)))
           ((true = false) ∧
           True)
           ((true = false) ∧
           True)))))))))))))))))))))))))
     (br (decide (k ≥ (0 : Int)))
      (br (decide (k ≤ (4 : Int)))
       ((((True ∧ True) ∧ (True ∧ (True ∧ ((0 : Int) ≤ k ∧ k ≤ (4 : Int)))))) ∧
       ((((True ∧ (True ∧ True)) ∧ (True ∧ (True ∧ True)))) ∧
       ((((True ∧ (True ∧ True)) ∧ (True ∧ (True ∧ True)))) ∧
       ((((True ∧ (True ∧ True)) ∧ (True ∧ (True ∧ True)))) ∧
       ((Value.float FloatKind.f64 (edW i) = Value.float FloatKind.f64 (edW i)) ∧
       ((Value.float FloatKind.f64 b = Value.float FloatKind.f64 b) ∧
       ((Value.float FloatKind.f64 b = Value.float FloatKind.f64 b) ∧
       ((Value.float FloatKind.f64 b = Value.float FloatKind.f64 b) ∧
       ((Value.float FloatKind.f64 (edW k) = Value.float FloatKind.f64 (edW k)) ∧
       ((Value.float FloatKind.f64 (edW k) = Value.float FloatKind.f64 (edW k)) ∧
       ((Value.float FloatKind.f64 (edW i) = Value.float FloatKind.f64 (edW i)) ∧
       ((Value.float FloatKind.f64 (edW i) = Value.float FloatKind.f64 (edW i)) ∧
       ((Value.float FloatKind.f64 (edW i) = Value.float FloatKind.f64 (edW i)) ∧
       ((Value.float FloatKind.f64 (edW k) = Value.float FloatKind.f64 (edW k)) ∧
       ((Value.float FloatKind.f64 (edW k) = Value.float FloatKind.f64 (edW k)) ∧
       ((Value.float FloatKind.f64 (edW k) = Value.float FloatKind.f64 (edW k)) ∧
       ((((True ∧ (True ∧ True)) ∧ (True ∧ (True ∧ True)))) ∧
       (br (ck b (edW i) == IntKind.wrap IntKind.i64 ((0 : Int) - ck (edW i) b))
        ((((True ∧ (True ∧ True)) ∧ (True ∧ (True ∧ True)))) ∧
        ((Value.float FloatKind.f64 b = Value.float FloatKind.f64 b) ∧
        ((Value.float FloatKind.f64 (edW i) = Value.float FloatKind.f64 (edW i)) ∧
        ((Value.float FloatKind.f64 (edW i) = Value.float FloatKind.f64 (edW i)) ∧
        ((Value.float FloatKind.f64 (edW i) = Value.float FloatKind.f64 (edW i)) ∧
        (br (decide (ck (edW i) b ≤ (0 : Int)))
         (br (!decide (ck b (edW k) ≤ (0 : Int)))
          (br (decide (ck (edW i) b < (0 : Int)))
           (br (!decide (ck b (edW k) ≤ (0 : Int)))
            (br (decide (ck (edW i) b ≥ (-1 : Int)))
             (br (ck (edW i) (edW i) == (0 : Int))
              (br (decide (ck (edW i) b ≤ (1 : Int)))
               (((True ∧ (True ∧ (True ∧ True)))) ∧
               ((true = true) ∧
               True))
               ((true = false) ∧
               True))
              ((true = false) ∧
              True))
             (br (ck (edW i) (edW i) == (0 : Int))
              ((true = false) ∧
              True)
              ((true = false) ∧
              True)))
            (br (decide (ck (edW i) b ≥ (-1 : Int)))
             (br (ck (edW i) (edW i) == (0 : Int))
              (br (decide (ck (edW i) (edW k) < (0 : Int)))
               (br (decide (ck (edW i) b ≤ (1 : Int)))
                (((True ∧ (True ∧ (True ∧ True)))) ∧
                ((true = true) ∧
                True))
                ((true = false) ∧
                True))
               ((true = false) ∧
               True))
              ((true = false) ∧
              True))
             (br (ck (edW i) (edW i) == (0 : Int))
              (br (decide (ck (edW i) (edW k) < (0 : Int)))
               ((true = false) ∧
               True)
               ((true = false) ∧
               True))
              ((true = false) ∧
              True))))
           (br (decide (ck (edW i) b ≥ (-1 : Int)))
            (br (ck (edW i) (edW i) == (0 : Int))
             (br (decide (ck (edW i) b ≤ (1 : Int)))
              (((True ∧ (True ∧ (True ∧ True)))) ∧
              ((true = true) ∧
              True))
              ((true = false) ∧
              True))
             ((true = false) ∧
             True))
            (br (ck (edW i) (edW i) == (0 : Int))
             ((true = false) ∧
             True)
             ((true = false) ∧
             True))))
          (br (decide (ck (edW i) b < (0 : Int)))
           (br (!decide (ck b (edW k) ≤ (0 : Int)))
            (br (decide (ck (edW i) b ≥ (-1 : Int)))
             (br (ck (edW i) (edW i) == (0 : Int))
              (br (decide (ck (edW i) (edW k) ≤ (0 : Int)))
               (br (decide (ck (edW i) b ≤ (1 : Int)))
                (((True ∧ (True ∧ (True ∧ True)))) ∧
                ((true = true) ∧
                True))
                ((true = false) ∧
                True))
               ((true = false) ∧
               True))
              ((true = false) ∧
              True))
             (br (ck (edW i) (edW i) == (0 : Int))
              (br (decide (ck (edW i) (edW k) ≤ (0 : Int)))
               ((true = false) ∧
               True)
               ((true = false) ∧
               True))
              ((true = false) ∧
              True)))
            (br (decide (ck (edW i) b ≥ (-1 : Int)))
             (br (ck (edW i) (edW i) == (0 : Int))
              (br (decide (ck (edW i) (edW k) ≤ (0 : Int)))
               (br (decide (ck (edW i) (edW k) < (0 : Int)))
                (br (decide (ck (edW i) b ≤ (1 : Int)))
                 (((True ∧ (True ∧ (True ∧ True)))) ∧
                 ((true = true) ∧
                 True))
                 ((true = false) ∧
                 True))
                ((true = false) ∧
                True))
               ((true = false) ∧
               True))
              ((true = false) ∧
              True))
             (br (ck (edW i) (edW i) == (0 : Int))
              (br (decide (ck (edW i) (edW k) ≤ (0 : Int)))
               (br (decide (ck (edW i) (edW k) < (0 : Int)))
                ((true = false) ∧
                True)
                ((true = false) ∧
                True))
               ((true = false) ∧
               True))
              ((true = false) ∧
              True))))
           (br (decide (ck (edW i) b ≥ (-1 : Int)))
            (br (ck (edW i) (edW i) == (0 : Int))
             (br (decide (ck (edW i) (edW k) ≤ (0 : Int)))
              (br (decide (ck (edW i) b ≤ (1 : Int)))
               (((True ∧ (True ∧ (True ∧ True)))) ∧
               ((true = true) ∧
               True))
               ((true = false) ∧
               True))
              ((true = false) ∧
              True))
             ((true = false) ∧
             True))
            (br (ck (edW i) (edW i) == (0 : Int))
             (br (decide (ck (edW i) (edW k) ≤ (0 : Int)))
              ((true = false) ∧
              True)
              ((true = false) ∧
              True))
             ((true = false) ∧
             True)))))
         (br (decide (ck (edW i) b < (0 : Int)))
          (br (!decide (ck b (edW k) ≤ (0 : Int)))
           (br (decide (ck (edW i) b ≥ (-1 : Int)))
            (br (ck (edW i) (edW i) == (0 : Int))
             (br (decide (ck (edW i) b ≤ (1 : Int)))
              (((True ∧ (True ∧ (True ∧ True)))) ∧
              ((true = true) ∧
              True))
              ((true = false) ∧
              True))
             ((true = false) ∧
             True))
            (br (ck (edW i) (edW i) == (0 : Int))
             ((true = false) ∧
             True)
             ((true = false) ∧
             True)))
           (br (decide (ck (edW i) b ≥ (-1 : Int)))
            (br (ck (edW i) (edW i) == (0 : Int))
             (br (decide (ck (edW i) (edW k) < (0 : Int)))
              (br (decide (ck (edW i) b ≤ (1 : Int)))
               (((True ∧ (True ∧ (True ∧ True)))) ∧
               ((true = true) ∧
               True))
               ((true = false) ∧
               True))
              ((true = false) ∧
              True))
             ((true = false) ∧
             True))
            (br (ck (edW i) (edW i) == (0 : Int))
             (br (decide (ck (edW i) (edW k) < (0 : Int)))
              ((true = false) ∧
              True)
              ((true = false) ∧
              True))
             ((true = false) ∧
             True))))
          (br (decide (ck (edW i) b ≥ (-1 : Int)))
           (br (ck (edW i) (edW i) == (0 : Int))
            (br (decide (ck (edW i) b ≤ (1 : Int)))
             (((True ∧ (True ∧ (True ∧ True)))) ∧
             ((true = true) ∧
             True))
             ((true = false) ∧
             True))
            ((true = false) ∧
            True))
           (br (ck (edW i) (edW i) == (0 : Int))
            ((true = false) ∧
            True)
            ((true = false) ∧
            True))))))))))
        ((Value.float FloatKind.f64 b = Value.float FloatKind.f64 b) ∧
        ((Value.float FloatKind.f64 (edW i) = Value.float FloatKind.f64 (edW i)) ∧
        (br (decide (ck (edW i) b ≤ (0 : Int)))
         (br (!decide (ck b (edW k) ≤ (0 : Int)))
          (br (decide (ck (edW i) b < (0 : Int)))
           (br (!decide (ck b (edW k) ≤ (0 : Int)))
            (br (decide (ck (edW i) b ≥ (-1 : Int)))
             ((true = false) ∧
             True)
             ((true = false) ∧
             True))
            (br (decide (ck (edW i) b ≥ (-1 : Int)))
             ((true = false) ∧
             True)
             ((true = false) ∧
             True)))
           (br (decide (ck (edW i) b ≥ (-1 : Int)))
            ((true = false) ∧
            True)
            ((true = false) ∧
            True)))
          (br (decide (ck (edW i) b < (0 : Int)))
           (br (!decide (ck b (edW k) ≤ (0 : Int)))
            (br (decide (ck (edW i) b ≥ (-1 : Int)))
             ((true = false) ∧
             True)
             ((true = false) ∧
             True))
            (br (decide (ck (edW i) b ≥ (-1 : Int)))
             ((true = false) ∧
             True)
             ((true = false) ∧
             True)))
           (br (decide (ck (edW i) b ≥ (-1 : Int)))
            ((true = false) ∧
            True)
            ((true = false) ∧
            True))))
         (br (decide (ck (edW i) b < (0 : Int)))
          (br (!decide (ck b (edW k) ≤ (0 : Int)))
           (br (decide (ck (edW i) b ≥ (-1 : Int)))
            ((true = false) ∧
            True)
            ((true = false) ∧
            True))
           (br (decide (ck (edW i) b ≥ (-1 : Int)))
            ((true = false) ∧
            True)
            ((true = false) ∧
            True)))
          (br (decide (ck (edW i) b ≥ (-1 : Int)))
           ((true = false) ∧
           True)
           ((true = false) ∧
           True))))))))))))))))))))))))
       ((((True ∧ (True ∧ True)) ∧ (True ∧ (True ∧ True)))) ∧
       ((((True ∧ (True ∧ True)) ∧ (True ∧ (True ∧ True)))) ∧
       ((((True ∧ (True ∧ True)) ∧ (True ∧ (True ∧ True)))) ∧
       ((Value.float FloatKind.f64 (edW i) = Value.float FloatKind.f64 (edW i)) ∧
       ((Value.float FloatKind.f64 b = Value.float FloatKind.f64 b) ∧
       ((Value.float FloatKind.f64 b = Value.float FloatKind.f64 b) ∧
       ((Value.float FloatKind.f64 b = Value.float FloatKind.f64 b) ∧
       ((Value.float FloatKind.f64 c = Value.float FloatKind.f64 c) ∧
       ((Value.float FloatKind.f64 c = Value.float FloatKind.f64 c) ∧
       ((Value.float FloatKind.f64 (edW i) = Value.float FloatKind.f64 (edW i)) ∧
       ((Value.float FloatKind.f64 (edW i) = Value.float FloatKind.f64 (edW i)) ∧
       ((Value.float FloatKind.f64 (edW i) = Value.float FloatKind.f64 (edW i)) ∧
       ((Value.float FloatKind.f64 c = Value.float FloatKind.f64 c) ∧
       ((Value.float FloatKind.f64 c = Value.float FloatKind.f64 c) ∧
       ((Value.float FloatKind.f64 c = Value.float FloatKind.f64 c) ∧
       ((((True ∧ (True ∧ True)) ∧ (True ∧ (True ∧ True)))) ∧
       (br (ck b (edW i) == IntKind.wrap IntKind.i64 ((0 : Int) - ck (edW i) b))
        ((((True ∧ (True ∧ True)) ∧ (True ∧ (True ∧ True)))) ∧
        ((Value.float FloatKind.f64 b = Value.float FloatKind.f64 b) ∧
        ((Value.float FloatKind.f64 (edW i) = Value.float FloatKind.f64 (edW i)) ∧
        ((Value.float FloatKind.f64 (edW i) = Value.float FloatKind.f64 (edW i)) ∧
        ((Value.float FloatKind.f64 (edW i) = Value.float FloatKind.f64 (edW i)) ∧
        (br (decide (ck (edW i) b ≤ (0 : Int)))
         (br (!decide (ck b c ≤ (0 : Int)))
          (br (decide (ck (edW i) b < (0 : Int)))
           (br (!decide (ck b c ≤ (0 : Int)))
            (br (decide (ck (edW i) b ≥ (-1 : Int)))
             (br (ck (edW i) (edW i) == (0 : Int))
              (br (decide (ck (edW i) b ≤ (1 : Int)))
               (((True ∧ (True ∧ (True ∧ True)))) ∧
               ((true = true) ∧
               True))
               ((true = false) ∧
               True))
              ((true = false) ∧
              True))
             (br (ck (edW i) (edW i) == (0 : Int))
              ((true = false) ∧
              True)
              ((true = false) ∧
              True)))
            (br (decide (ck (edW i) b ≥ (-1 : Int)))
             (br (ck (edW i) (edW i) == (0 : Int))
              (br (decide (ck (edW i) c < (0 : Int)))
               (br (decide (ck (edW i) b ≤ (1 : Int)))
                (((True ∧ (True ∧ (True ∧ True)))) ∧
                ((true = true) ∧
                True))
                ((true = false) ∧
                True))
               ((true = false) ∧
               True))
              ((true = false) ∧
              True))
             (br (ck (edW i) (edW i) == (0 : Int))
              (br (decide (ck (edW i) c < (0 : Int)))
               ((true = false) ∧
               True)
               ((true = false) ∧
               True))
              ((true = false) ∧
              True))))
           (br (decide (ck (edW i) b ≥ (-1 : Int)))
            (br (ck (edW i) (edW i) == (0 : Int))
             (br (decide (ck (edW i) b ≤ (1 : Int)))
              (((True ∧ (True ∧ (True ∧ True)))) ∧
              ((true = true) ∧
              True))
              ((true = false) ∧
              True))
             ((true = false) ∧
             True))
            (br (ck (edW i) (edW i) == (0 : Int))
             ((true = false) ∧
             True)
             ((true = false) ∧
             True))))
          (br (decide (ck (edW i) b < (0 : Int)))
           (br (!decide (ck b c ≤ (0 : Int)))
            (br (decide (ck (edW i) b ≥ (-1 : Int)))
             (br (ck (edW i) (edW i) == (0 : Int))
              (br (decide (ck (edW i) c ≤ (0 : Int)))
               (br (decide (ck (edW i) b ≤ (1 : Int)))
                (((True ∧ (True ∧ (True ∧ True)))) ∧
                ((true = true) ∧
                True))
                ((true = false) ∧
                True))
               ((true = false) ∧
               True))
              ((true = false) ∧
              True))
             (br (ck (edW i) (edW i) == (0 : Int))
              (br (decide (ck (edW i) c ≤ (0 : Int)))
               ((true = false) ∧
               True)
               ((true = false) ∧
               True))
              ((true = false) ∧
              True)))
            (br (decide (ck (edW i) b ≥ (-1 : Int)))
             (br (ck (edW i) (edW i) == (0 : Int))
              (br (decide (ck (edW i) c ≤ (0 : Int)))
               (br (decide (ck (edW i) c < (0 : Int)))
                (br (decide (ck (edW i) b ≤ (1 : Int)))
                 (((True ∧ (True ∧ (True ∧ True)))) ∧
                 ((true = true) ∧
                 True))
                 ((true = false) ∧
                 True))
                ((true = false) ∧
                True))
               ((true = false) ∧
               True))
              ((true = false) ∧
              True))
             (br (ck (edW i) (edW i) == (0 : Int))
              (br (decide (ck (edW i) c ≤ (0 : Int)))
               (br (decide (ck (edW i) c < (0 : Int)))
                ((true = false) ∧
                True)
                ((true = false) ∧
                True))
               ((true = false) ∧
               True))
              ((true = false) ∧
              True))))
           (br (decide (ck (edW i) b ≥ (-1 : Int)))
            (br (ck (edW i) (edW i) == (0 : Int))
             (br (decide (ck (edW i) c ≤ (0 : Int)))
              (br (decide (ck (edW i) b ≤ (1 : Int)))
               (((True ∧ (True ∧ (True ∧ True)))) ∧
               ((true = true) ∧
               True))
               ((true = false) ∧
               True))
              ((true = false) ∧
              True))
             ((true = false) ∧
             True))
            (br (ck (edW i) (edW i) == (0 : Int))
             (br (decide (ck (edW i) c ≤ (0 : Int)))
              ((true = false) ∧
              True)
              ((true = false) ∧
              True))
             ((true = false) ∧
             True)))))
         (br (decide (ck (edW i) b < (0 : Int)))
          (br (!decide (ck b c ≤ (0 : Int)))
           (br (decide (ck (edW i) b ≥ (-1 : Int)))
            (br (ck (edW i) (edW i) == (0 : Int))
             (br (decide (ck (edW i) b ≤ (1 : Int)))
              (((True ∧ (True ∧ (True ∧ True)))) ∧
              ((true = true) ∧
              True))
              ((true = false) ∧
              True))
             ((true = false) ∧
             True))
            (br (ck (edW i) (edW i) == (0 : Int))
             ((true = false) ∧
             True)
             ((true = false) ∧
             True)))
           (br (decide (ck (edW i) b ≥ (-1 : Int)))
            (br (ck (edW i) (edW i) == (0 : Int))
             (br (decide (ck (edW i) c < (0 : Int)))
              (br (decide (ck (edW i) b ≤ (1 : Int)))
               (((True ∧ (True ∧ (True ∧ True)))) ∧
               ((true = true) ∧
               True))
               ((true = false) ∧
               True))
              ((true = false) ∧
              True))
             ((true = false) ∧
             True))
            (br (ck (edW i) (edW i) == (0 : Int))
             (br (decide (ck (edW i) c < (0 : Int)))
              ((true = false) ∧
              True)
              ((true = false) ∧
              True))
             ((true = false) ∧
             True))))
          (br (decide (ck (edW i) b ≥ (-1 : Int)))
           (br (ck (edW i) (edW i) == (0 : Int))
            (br (decide (ck (edW i) b ≤ (1 : Int)))
             (((True ∧ (True ∧ (True ∧ True)))) ∧
             ((true = true) ∧
             True))
             ((true = false) ∧
             True))
            ((true = false) ∧
            True))
           (br (ck (edW i) (edW i) == (0 : Int))
            ((true = false) ∧
            True)
            ((true = false) ∧
            True))))))))))
        ((Value.float FloatKind.f64 b = Value.float FloatKind.f64 b) ∧
        ((Value.float FloatKind.f64 (edW i) = Value.float FloatKind.f64 (edW i)) ∧
        (br (decide (ck (edW i) b ≤ (0 : Int)))
         (br (!decide (ck b c ≤ (0 : Int)))
          (br (decide (ck (edW i) b < (0 : Int)))
           (br (!decide (ck b c ≤ (0 : Int)))
            (br (decide (ck (edW i) b ≥ (-1 : Int)))
             ((true = false) ∧
             True)
             ((true = false) ∧
             True))
            (br (decide (ck (edW i) b ≥ (-1 : Int)))
             ((true = false) ∧
             True)
             ((true = false) ∧
             True)))
           (br (decide (ck (edW i) b ≥ (-1 : Int)))
            ((true = false) ∧
            True)
            ((true = false) ∧
            True)))
          (br (decide (ck (edW i) b < (0 : Int)))
           (br (!decide (ck b c ≤ (0 : Int)))
            (br (decide (ck (edW i) b ≥ (-1 : Int)))
             ((true = false) ∧
             True)
             ((true = false) ∧
             True))
            (br (decide (ck (edW i) b ≥ (-1 : Int)))
             ((true = false) ∧
             True)
             ((true = false) ∧
             True)))
           (br (decide (ck (edW i) b ≥ (-1 : Int)))
            ((true = false) ∧
            True)
            ((true = false) ∧
            True))))
         (br (decide (ck (edW i) b < (0 : Int)))
          (br (!decide (ck b c ≤ (0 : Int)))
           (br (decide (ck (edW i) b ≥ (-1 : Int)))
            ((true = false) ∧
            True)
            ((true = false) ∧
            True))
           (br (decide (ck (edW i) b ≥ (-1 : Int)))
            ((true = false) ∧
            True)
            ((true = false) ∧
            True)))
          (br (decide (ck (edW i) b ≥ (-1 : Int)))
           ((true = false) ∧
           True)
           ((true = false) ∧
           True))))))))))))))))))))))))
      ((((True ∧ (True ∧ True)) ∧ (True ∧ (True ∧ True)))) ∧
      ((((True ∧ (True ∧ True)) ∧ (True ∧ (True ∧ True)))) ∧
      ((((True ∧ (True ∧ True)) ∧ (True ∧ (True ∧ True)))) ∧
      ((Value.float FloatKind.f64 (edW i) = Value.float FloatKind.f64 (edW i)) ∧
      ((Value.float FloatKind.f64 b = Value.float FloatKind.f64 b) ∧
      ((Value.float FloatKind.f64 b = Value.float FloatKind.f64 b) ∧
      ((Value.float FloatKind.f64 b = Value.float FloatKind.f64 b) ∧
      ((Value.float FloatKind.f64 c = Value.float FloatKind.f64 c) ∧
      ((Value.float FloatKind.f64 c = Value.float FloatKind.f64 c) ∧
      ((Value.float FloatKind.f64 (edW i) = Value.float FloatKind.f64 (edW i)) ∧
      ((Value.float FloatKind.f64 (edW i) = Value.float FloatKind.f64 (edW i)) ∧
      ((Value.float FloatKind.f64 (edW i) = Value.float FloatKind.f64 (edW i)) ∧
      ((Value.float FloatKind.f64 c = Value.float FloatKind.f64 c) ∧
      ((Value.float FloatKind.f64 c = Value.float FloatKind.f64 c) ∧
      ((Value.float FloatKind.f64 c = Value.float FloatKind.f64 c) ∧
      ((((True ∧ (True ∧ True)) ∧ (True ∧ (True ∧ True)))) ∧
      (br (ck b (edW i) == IntKind.wrap IntKind.i64 ((0 : Int) - ck (edW i) b))
       ((((True ∧ (True ∧ True)) ∧ (True ∧ (True ∧ True)))) ∧
       ((Value.float FloatKind.f64 b = Value.float FloatKind.f64 b) ∧
       ((Value.float FloatKind.f64 (edW i) = Value.float FloatKind.f64 (edW i)) ∧
       ((Value.float FloatKind.f64 (edW i) = Value.float FloatKind.f64 (edW i)) ∧
       ((Value.float FloatKind.f64 (edW i) = Value.float FloatKind.f64 (edW i)) ∧
       (br (decide (ck (edW i) b ≤ (0 : Int)))
        (br (!decide (ck b c ≤ (0 : Int)))
         (br (decide (ck (edW i) b < (0 : Int)))
          (br (!decide (ck b c ≤ (0 : Int)))
           (br (decide (ck (edW i) b ≥ (-1 : Int)))
            (br (ck (edW i) (edW i) == (0 : Int))
             (br (decide (ck (edW i) b ≤ (1 : Int)))
              (((True ∧ (True ∧ (True ∧ True)))) ∧
              ((true = true) ∧
              True))
              ((true = false) ∧
              True))
             ((true = false) ∧
             True))
            (br (ck (edW i) (edW i) == (0 : Int))
             ((true = false) ∧
             True)
             ((true = false) ∧
             True)))
           (br (decide (ck (edW i) b ≥ (-1 : Int)))
            (br (ck (edW i) (edW i) == (0 : Int))
             (br (decide (ck (edW i) c < (0 : Int)))
              (br (decide (ck (edW i) b ≤ (1 : Int)))
               (((True ∧ (True ∧ (True ∧ True)))) ∧
               ((true = true) ∧
               True))
               ((true = false) ∧
               True))
              ((true = false) ∧
              True))
             ((true = false) ∧
             True))
            (br (ck (edW i) (edW i) == (0 : Int))
             (br (decide (ck (edW i) c < (0 : Int)))
              ((true = false) ∧
              True)
              ((true = false) ∧
              True))
             ((true = false) ∧
             True))))
          (br (decide (ck (edW i) b ≥ (-1 : Int)))
           (br (ck (edW i) (edW i) == (0 : Int))
            (br (decide (ck (edW i) b ≤ (1 : Int)))
             (((True ∧ (True ∧ (True ∧ True)))) ∧
             ((true = true) ∧
             True))
             ((true = false) ∧
             True))
            ((true = false) ∧
            True))
           (br (ck (edW i) (edW i) == (0 : Int))
            ((true = false) ∧
            True)
            ((true = false) ∧
            True))))
         (br (decide (ck (edW i) b < (0 : Int)))
          (br (!decide (ck b c ≤ (0 : Int)))
           (br (decide (ck (edW i) b ≥ (-1 : Int)))
            (br (ck (edW i) (edW i) == (0 : Int))
             (br (decide (ck (edW i) c ≤ (0 : Int)))
              (br (decide (ck (edW i) b ≤ (1 : Int)))
               (((True ∧ (True ∧ (True ∧ True)))) ∧
               ((true = true) ∧
               True))
               ((true = false) ∧
               True))
              ((true = false) ∧
              True))
             ((true = false) ∧
             True))
            (br (ck (edW i) (edW i) == (0 : Int))
             (br (decide (ck (edW i) c ≤ (0 : Int)))
              ((true = false) ∧
              True)
              ((true = false) ∧
              True))
             ((true = false) ∧
             True)))
           (br (decide (ck (edW i) b ≥ (-1 : Int)))
            (br (ck (edW i) (edW i) == (0 : Int))
             (br (decide (ck (edW i) c ≤ (0 : Int)))
              (br (decide (ck (edW i) c < (0 : Int)))
               (br (decide (ck (edW i) b ≤ (1 : Int)))
                (((True ∧ (True ∧ (True ∧ True)))) ∧
                ((true = true) ∧
                True))
                ((true = false) ∧
                True))
               ((true = false) ∧
               True))
              ((true = false) ∧
              True))
             ((true = false) ∧
             True))
            (br (ck (edW i) (edW i) == (0 : Int))
             (br (decide (ck (edW i) c ≤ (0 : Int)))
              (br (decide (ck (edW i) c < (0 : Int)))
               ((true = false) ∧
               True)
               ((true = false) ∧
               True))
              ((true = false) ∧
              True))
             ((true = false) ∧
             True))))
          (br (decide (ck (edW i) b ≥ (-1 : Int)))
           (br (ck (edW i) (edW i) == (0 : Int))
            (br (decide (ck (edW i) c ≤ (0 : Int)))
             (br (decide (ck (edW i) b ≤ (1 : Int)))
              (((True ∧ (True ∧ (True ∧ True)))) ∧
              ((true = true) ∧
              True))
              ((true = false) ∧
              True))
             ((true = false) ∧
             True))
            ((true = false) ∧
            True))
           (br (ck (edW i) (edW i) == (0 : Int))
            (br (decide (ck (edW i) c ≤ (0 : Int)))
             ((true = false) ∧
             True)
             ((true = false) ∧
             True))
            ((true = false) ∧
            True)))))
        (br (decide (ck (edW i) b < (0 : Int)))
         (br (!decide (ck b c ≤ (0 : Int)))
          (br (decide (ck (edW i) b ≥ (-1 : Int)))
           (br (ck (edW i) (edW i) == (0 : Int))
            (br (decide (ck (edW i) b ≤ (1 : Int)))
             (((True ∧ (True ∧ (True ∧ True)))) ∧
             ((true = true) ∧
             True))
             ((true = false) ∧
             True))
            ((true = false) ∧
            True))
           (br (ck (edW i) (edW i) == (0 : Int))
            ((true = false) ∧
            True)
            ((true = false) ∧
            True)))
          (br (decide (ck (edW i) b ≥ (-1 : Int)))
           (br (ck (edW i) (edW i) == (0 : Int))
            (br (decide (ck (edW i) c < (0 : Int)))
             (br (decide (ck (edW i) b ≤ (1 : Int)))
              (((True ∧ (True ∧ (True ∧ True)))) ∧
              ((true = true) ∧
              True))
              ((true = false) ∧
              True))
             ((true = false) ∧
             True))
            ((true = false) ∧
            True))
           (br (ck (edW i) (edW i) == (0 : Int))
            (br (decide (ck (edW i) c < (0 : Int)))
             ((true = false) ∧
             True)
             ((true = false) ∧
             True))
            ((true = false) ∧
            True))))
         (br (decide (ck (edW i) b ≥ (-1 : Int)))
          (br (ck (edW i) (edW i) == (0 : Int))
           (br (decide (ck (edW i) b ≤ (1 : Int)))
            (((True ∧ (True ∧ (True ∧ True)))) ∧
            ((true = true) ∧
            True))
            ((true = false) ∧
            True))
           ((true = false) ∧
           True))
          (br (ck (edW i) (edW i) == (0 : Int))
           ((true = false) ∧
           True)
           ((true = false) ∧
           True))))))))))
       ((Value.float FloatKind.f64 b = Value.float FloatKind.f64 b) ∧
       ((Value.float FloatKind.f64 (edW i) = Value.float FloatKind.f64 (edW i)) ∧
       (br (decide (ck (edW i) b ≤ (0 : Int)))
        (br (!decide (ck b c ≤ (0 : Int)))
         (br (decide (ck (edW i) b < (0 : Int)))
          (br (!decide (ck b c ≤ (0 : Int)))
           (br (decide (ck (edW i) b ≥ (-1 : Int)))
            ((true = false) ∧
            True)
            ((true = false) ∧
            True))
           (br (decide (ck (edW i) b ≥ (-1 : Int)))
            ((true = false) ∧
            True)
            ((true = false) ∧
            True)))
          (br (decide (ck (edW i) b ≥ (-1 : Int)))
           ((true = false) ∧
           True)
           ((true = false) ∧
           True)))
         (br (decide (ck (edW i) b < (0 : Int)))
          (br (!decide (ck b c ≤ (0 : Int)))
           (br (decide (ck (edW i) b ≥ (-1 : Int)))
            ((true = false) ∧
            True)
            ((true = false) ∧
            True))
           (br (decide (ck (edW i) b ≥ (-1 : Int)))
            ((true = false) ∧
            True)
            ((true = false) ∧
            True)))
          (br (decide (ck (edW i) b ≥ (-1 : Int)))
           ((true = false) ∧
           True)
           ((true = false) ∧
           True))))
        (br (decide (ck (edW i) b < (0 : Int)))
         (br (!decide (ck b c ≤ (0 : Int)))
          (br (decide (ck (edW i) b ≥ (-1 : Int)))
           ((true = false) ∧
           True)
           ((true = false) ∧
           True))
          (br (decide (ck (edW i) b ≥ (-1 : Int)))
           ((true = false) ∧
           True)
           ((true = false) ∧
           True)))
         (br (decide (ck (edW i) b ≥ (-1 : Int)))
          ((true = false) ∧
          True)
          ((true = false) ∧
          True))))))))))))))))))))))))))
    (br (decide (j ≥ (0 : Int)))
     (br (decide (j ≤ (4 : Int)))
      ((((True ∧ True) ∧ (True ∧ (True ∧ ((0 : Int) ≤ j ∧ j ≤ (4 : Int)))))) ∧
      (br (decide (k ≥ (0 : Int)))
       (br (decide (k ≤ (4 : Int)))
        ((((True ∧ True) ∧ (True ∧ (True ∧ ((0 : Int) ≤ k ∧ k ≤ (4 : Int)))))) ∧
        ((((True ∧ (True ∧ True)) ∧ (True ∧ (True ∧ True)))) ∧
        ((((True ∧ (True ∧ True)) ∧ (True ∧ (True ∧ True)))) ∧
        ((((True ∧ (True ∧ True)) ∧ (True ∧ (True ∧ True)))) ∧
        ((Value.float FloatKind.f64 a = Value.float FloatKind.f64 a) ∧
        ((Value.float FloatKind.f64 (edW j) = Value.float FloatKind.f64 (edW j)) ∧
        ((Value.float FloatKind.f64 (edW j) = Value.float FloatKind.f64 (edW j)) ∧
        ((Value.float FloatKind.f64 (edW j) = Value.float FloatKind.f64 (edW j)) ∧
        ((Value.float FloatKind.f64 (edW k) = Value.float FloatKind.f64 (edW k)) ∧
        ((Value.float FloatKind.f64 (edW k) = Value.float FloatKind.f64 (edW k)) ∧
        ((Value.float FloatKind.f64 a = Value.float FloatKind.f64 a) ∧
        ((Value.float FloatKind.f64 a = Value.float FloatKind.f64 a) ∧
        ((Value.float FloatKind.f64 a = Value.float FloatKind.f64 a) ∧
        ((Value.float FloatKind.f64 (edW k) = Value.float FloatKind.f64 (edW k)) ∧
        ((Value.float FloatKind.f64 (edW k) = Value.float FloatKind.f64 (edW k)) ∧
        ((Value.float FloatKind.f64 (edW k) = Value.float FloatKind.f64 (edW k)) ∧
        ((((True ∧ (True ∧ True)) ∧ (True ∧ (True ∧ True)))) ∧
        (br (ck (edW j) a == IntKind.wrap IntKind.i64 ((0 : Int) - ck a (edW j)))
         ((((True ∧ (True ∧ True)) ∧ (True ∧ (True ∧ True)))) ∧
         ((Value.float FloatKind.f64 (edW j) = Value.float FloatKind.f64 (edW j)) ∧
         ((Value.float FloatKind.f64 a = Value.float FloatKind.f64 a) ∧
         ((Value.float FloatKind.f64 a = Value.float FloatKind.f64 a) ∧
         ((Value.float FloatKind.f64 a = Value.float FloatKind.f64 a) ∧
         (br (decide (ck a (edW j) ≤ (0 : Int)))
          (br (!decide (ck (edW j) (edW k) ≤ (0 : Int)))
           (br (decide (ck a (edW j) < (0 : Int)))
            (br (!decide (ck (edW j) (edW k) ≤ (0 : Int)))
             (br (decide (ck a (edW j) ≥ (-1 : Int)))
              (br (ck a a == (0 : Int))
               (br (decide (ck a (edW j) ≤ (1 : Int)))
                (((True ∧ (True ∧ (True ∧ True)))) ∧
                ((true = true) ∧
                True))
                ((true = false) ∧
                True))
               ((true = false) ∧
               True))
              (br (ck a a == (0 : Int))
               ((true = false) ∧
               True)
               ((true = false) ∧
               True)))
             (br (decide (ck a (edW j) ≥ (-1 : Int)))
              (br (ck a a == (0 : Int))
               (br (decide (ck a (edW k) < (0 : Int)))
                (br (decide (ck a (edW j) ≤ (1 : Int)))
                 (((True ∧ (True ∧ (True ∧ True)))) ∧
                 ((true = true) ∧
                 True))
                 ((true = false) ∧
                 True))
                ((true = false) ∧
                True))
               ((true = false) ∧
               True))
              (br (ck a a == (0 : Int))
               (br (decide (ck a (edW k) < (0 : Int)))
                ((true = false) ∧
                True)
                ((true = false) ∧
                True))
               ((true = false) ∧
               True))))
            (br (decide (ck a (edW j) ≥ (-1 : Int)))
             (br (ck a a == (0 : Int))
              (br (decide (ck a (edW j) ≤ (1 : Int)))
               (((True ∧ (True ∧ (True ∧ True)))) ∧
               ((true = true) ∧
               True))
               ((true = false) ∧
               True))
              ((true = false) ∧
              True))
             (br (ck a a == (0 : Int))
              ((true = false) ∧
              True)
              ((true = false) ∧
              True))))
           (br (decide (ck a (edW j) < (0 : Int)))
            (br (!decide (ck (edW j) (edW k) ≤ (0 : Int)))
             (br (decide (ck a (edW j) ≥ (-1 : Int)))
              (br (ck a a == (0 : Int))
               (br (decide (ck a (edW k) ≤ (0 : Int)))
                (br (decide (ck a (edW j) ≤ (1 : Int)))
                 (((True ∧ (True ∧ (True ∧ True)))) ∧
                 ((true = true) ∧
                 True))
                 ((true = false) ∧
                 True))
                ((true = false) ∧
                True))
               ((true = false) ∧
               True))
              (br (ck a a == (0 : Int))
               (br (decide (ck a (edW k) ≤ (0 : Int)))
                ((true = false) ∧
                True)
                ((true = false) ∧
                True))
               ((true = false) ∧
               True)))
             (br (decide (ck a (edW j) ≥ (-1 : Int)))
              (br (ck a a == (0 : Int))
               (br (decide (ck a (edW k) ≤ (0 : Int)))
                (br (decide (ck a (edW k) < (0 : Int)))
                 (br (decide (ck a (edW j) ≤ (1 : Int)))
                  (((True ∧ (True ∧ (True ∧ True)))) ∧
                  ((true = true) ∧
                  True))
                  ((true = false) ∧
                  True))
                 ((true = false) ∧
                 True))
                ((true = false) ∧
                True))
               ((true = false) ∧
               True))
              (br (ck a a == (0 : Int))
               (br (decide (ck a (edW k) ≤ (0 : Int)))
                (br (decide (ck a (edW k) < (0 : Int)))
                 ((true = false) ∧
                 True)
                 ((true = false) ∧
                 True))
                ((true = false) ∧
                True))
               ((true = false) ∧
               True))))
            (br (decide (ck a (edW j) ≥ (-1 : Int)))
             (br (ck a a == (0 : Int))
              (br (decide (ck a (edW k) ≤ (0 : Int)))
               (br (decide (ck a (edW j) ≤ (1 : Int)))
                (((True ∧ (True ∧ (True ∧ True)))) ∧
                ((true = true) ∧
                True))
                ((true = false) ∧
                True))
               ((true = false) ∧
               True))
              ((true = false) ∧
              True))
             (br (ck a a == (0 : Int))
              (br (decide (ck a (edW k) ≤ (0 : Int)))
               ((true = false) ∧
               True)
               ((true = false) ∧
               True))
              ((true = false) ∧
              True)))))
          (br (decide (ck a (edW j) < (0 : Int)))
           (br (!decide (ck (edW j) (edW k) ≤ (0 : Int)))
            (br (decide (ck a (edW j) ≥ (-1 : Int)))
             (br (ck a a == (0 : Int))
              (br (decide (ck a (edW j) ≤ (1 : Int)))
               (((True ∧ (True ∧ (True ∧ True)))) ∧
               ((true = true) ∧
               True))
               ((true = false) ∧
               True))
              ((true = false) ∧
              True))
             (br (ck a a == (0 : Int))
              ((true = false) ∧
              True)
              ((true = false) ∧
              True)))
            (br (decide (ck a (edW j) ≥ (-1 : Int)))
             (br (ck a a == (0 : Int))
              (br (decide (ck a (edW k) < (0 : Int)))
               (br (decide (ck a (edW j) ≤ (1 : Int)))
                (((True ∧ (True ∧ (True ∧ True)))) ∧
                ((true = true) ∧
                True))
                ((true = false) ∧
                True))
               ((true = false) ∧
               True))
              ((true = false) ∧
              True))
             (br (ck a a == (0 : Int))
              (br (decide (ck a (edW k) < (0 : Int)))
               ((true = false) ∧
               True)
               ((true = false) ∧
               True))
              ((true = false) ∧
              True))))
           (br (decide (ck a (edW j) ≥ (-1 : Int)))
            (br (ck a a == (0 : Int))
             (br (decide (ck a (edW j) ≤ (1 : Int)))
              (((True ∧ (True ∧ (True ∧ True)))) ∧
              ((true = true) ∧
              True))
              ((true = false) ∧
              True))
             ((true = false) ∧
             True))
            (br (ck a a == (0 : Int))
             ((true = false) ∧
             True)
             ((true = false) ∧
             True))))))))))
         ((Value.float FloatKind.f64 (edW j) = Value.float FloatKind.f64 (edW j)) ∧
         ((Value.float FloatKind.f64 a = Value.float FloatKind.f64 a) ∧
         (br (decide (ck a (edW j) ≤ (0 : Int)))
          (br (!decide (ck (edW j) (edW k) ≤ (0 : Int)))
           (br (decide (ck a (edW j) < (0 : Int)))
            (br (!decide (ck (edW j) (edW k) ≤ (0 : Int)))
             (br (decide (ck a (edW j) ≥ (-1 : Int)))
              ((true = false) ∧
              True)
              ((true = false) ∧
              True))
             (br (decide (ck a (edW j) ≥ (-1 : Int)))
              ((true = false) ∧
              True)
              ((true = false) ∧
              True)))
            (br (decide (ck a (edW j) ≥ (-1 : Int)))
             ((true = false) ∧
             True)
             ((true = false) ∧
             True)))
           (br (decide (ck a (edW j) < (0 : Int)))
            (br (!decide (ck (edW j) (edW k) ≤ (0 : Int)))
             (br (decide (ck a (edW j) ≥ (-1 : Int)))
              ((true = false) ∧
              True)
              ((true = false) ∧
              True))
             (br (decide (ck a (edW j) ≥ (-1 : Int)))
              ((true = false) ∧
              True)
              ((true = false) ∧
              True)))
            (br (decide (ck a (edW j) ≥ (-1 : Int)))
             ((true = false) ∧
             True)
             ((true = false) ∧
             True))))
          (br (decide (ck a (edW j) < (0 : Int)))
           (br (!decide (ck (edW j) (edW k) ≤ (0 : Int)))
            (br (decide (ck a (edW j) ≥ (-1 : Int)))
             ((true = false) ∧
             True)
             ((true = false) ∧
             True))
            (br (decide (ck a (edW j) ≥ (-1 : Int)))
             ((true = false) ∧
             True)
             ((true = false) ∧
             True)))
           (br (decide (ck a (edW j) ≥ (-1 : Int)))
            ((true = false) ∧
            True)
            ((true = false) ∧
            True))))))))))))))))))))))))
        ((((True ∧ (True ∧ True)) ∧ (True ∧ (True ∧ True)))) ∧
        ((((True ∧ (True ∧ True)) ∧ (True ∧ (True ∧ True)))) ∧
        ((((True ∧ (True ∧ True)) ∧ (True ∧ (True ∧ True)))) ∧
        ((Value.float FloatKind.f64 a = Value.float FloatKind.f64 a) ∧
        ((Value.float FloatKind.f64 (edW j) = Value.float FloatKind.f64 (edW j)) ∧
        ((Value.float FloatKind.f64 (edW j) = Value.float FloatKind.f64 (edW j)) ∧
        ((Value.float FloatKind.f64 (edW j) = Value.float FloatKind.f64 (edW j)) ∧
        ((Value.float FloatKind.f64 c = Value.float FloatKind.f64 c) ∧
        ((Value.float FloatKind.f64 c = Value.float FloatKind.f64 c) ∧
        ((Value.float FloatKind.f64 a = Value.float FloatKind.f64 a) ∧
        ((Value.float FloatKind.f64 a = Value.float FloatKind.f64 a) ∧
        ((Value.float FloatKind.f64 a = Value.float FloatKind.f64 a) ∧
        ((Value.float FloatKind.f64 c = Value.float FloatKind.f64 c) ∧
        ((Value.float FloatKind.f64 c = Value.float FloatKind.f64 c) ∧
        ((Value.float FloatKind.f64 c = Value.float FloatKind.f64 c) ∧
        ((((True ∧ (True ∧ True)) ∧ (True ∧ (True ∧ True)))) ∧
        (br (ck (edW j) a == IntKind.wrap IntKind.i64 ((0 : Int) - ck a (edW j)))
         ((((True ∧ (True ∧ True)) ∧ (True ∧ (True ∧ True)))) ∧
         ((Value.float FloatKind.f64 (edW j) = Value.float FloatKind.f64 (edW j)) ∧
         ((Value.float FloatKind.f64 a = Value.float FloatKind.f64 a) ∧
         ((Value.float FloatKind.f64 a = Value.float FloatKind.f64 a) ∧
         ((Value.float FloatKind.f64 a = Value.float FloatKind.f64 a) ∧
         (br (decide (ck a (edW j) ≤ (0 : Int)))
          (br (!decide (ck (edW j) c ≤ (0 : Int)))
           (br (decide (ck a (edW j) < (0 : Int)))
            (br (!decide (ck (edW j) c ≤ (0 : Int)))
             (br (decide (ck a (edW j) ≥ (-1 : Int)))
              (br (ck a a == (0 : Int))
               (br (decide (ck a (edW j) ≤ (1 : Int)))
                (((True ∧ (True ∧ (True ∧ True)))) ∧
                ((true = true) ∧
                True))
                ((true = false) ∧
                True))
               ((true = false) ∧
               True))
              (br (ck a a == (0 : Int))
               ((true = false) ∧
               True)
               ((true = false) ∧
               True)))
             (br (decide (ck a (edW j) ≥ (-1 : Int)))
              (br (ck a a == (0 : Int))
               (br (decide (ck a c < (0 : Int)))
                (br (decide (ck a (edW j) ≤ (1 : Int)))
                 (((True ∧ (True ∧ (True ∧ True)))) ∧
                 ((true = true) ∧
                 True))
                 ((true = false) ∧
                 True))
                ((true = false) ∧
                True))
               ((true = false) ∧
               True))
              (br (ck a a == (0 : Int))
               (br (decide (ck a c < (0 : Int)))
                ((true = false) ∧
                True)
                ((true = false) ∧
                True))
               ((true = false) ∧
               True))))
            (br (decide (ck a (edW j) ≥ (-1 : Int)))
             (br (ck a a == (0 : Int))
              (br (decide (ck a (edW j) ≤ (1 : Int)))
               (((True ∧ (True ∧ (True ∧ True)))) ∧
               ((true = true) ∧
               True))
               ((true = false) ∧
               True))
              ((true = false) ∧
              True))
             (br (ck a a == (0 : Int))
              ((true = false) ∧
              True)
              ((true = false) ∧
              True))))
           (br (decide (ck a (edW j) < (0 : Int)))
            (br (!decide (ck (edW j) c ≤ (0 : Int)))
             (br (decide (ck a (edW j) ≥ (-1 : Int)))
              (br (ck a a == (0 : Int))
               (br (decide (ck a c ≤ (0 : Int)))
                (br (decide (ck a (edW j) ≤ (1 : Int)))
                 (((True ∧ (True ∧ (True ∧ True)))) ∧
                 ((true = true) ∧
                 True))
                 ((true = false) ∧
                 True))
                ((true = false) ∧
                True))
               ((true = false) ∧
               True))
              (br (ck a a == (0 : Int))
               (br (decide (ck a c ≤ (0 : Int)))
                ((true = false) ∧
                True)
                ((true = false) ∧
                True))
               ((true = false) ∧
               True)))
             (br (decide (ck a (edW j) ≥ (-1 : Int)))
              (br (ck a a == (0 : Int))
               (br (decide (ck a c ≤ (0 : Int)))
                (br (decide (ck a c < (0 : Int)))
                 (br (decide (ck a (edW j) ≤ (1 : Int)))
                  (((True ∧ (True ∧ (True ∧ True)))) ∧
                  ((true = true) ∧
                  True))
                  ((true = false) ∧
                  True))
                 ((true = false) ∧
                 True))
                ((true = false) ∧
                True))
               ((true = false) ∧
               True))
              (br (ck a a == (0 : Int))
               (br (decide (ck a c ≤ (0 : Int)))
                (br (decide (ck a c < (0 : Int)))
                 ((true = false) ∧
                 True)
                 ((true = false) ∧
                 True))
                ((true = false) ∧
                True))
               ((true = false) ∧
               True))))
            (br (decide (ck a (edW j) ≥ (-1 : Int)))
             (br (ck a a == (0 : Int))
              (br (decide (ck a c ≤ (0 : Int)))
               (br (decide (ck a (edW j) ≤ (1 : Int)))
                (((True ∧ (True ∧ (True ∧ True)))) ∧
                ((true = true) ∧
                True))
                ((true = false) ∧
                True))
               ((true = false) ∧
               True))
              ((true = false) ∧
              True))
             (br (ck a a == (0 : Int))
              (br (decide (ck a c ≤ (0 : Int)))
               ((true = false) ∧
               True)
               ((true = false) ∧
               True))
              ((true = false) ∧
              True)))))
          (br (decide (ck a (edW j) < (0 : Int)))
           (br (!decide (ck (edW j) c ≤ (0 : Int)))
            (br (decide (ck a (edW j) ≥ (-1 : Int)))
             (br (ck a a == (0 : Int))
              (br (decide (ck a (edW j) ≤ (1 : Int)))
               (((True ∧ (True ∧ (True ∧ True)))) ∧
               ((true = true) ∧
               True))
               ((true = false) ∧
               True))
              ((true = false) ∧
              True))
             (br (ck a a == (0 : Int))
              ((true = false) ∧
              True)
              ((true = false) ∧
              True)))
            (br (decide (ck a (edW j) ≥ (-1 : Int)))
             (br (ck a a == (0 : Int))
              (br (decide (ck a c < (0 : Int)))
               (br (decide (ck a (edW j) ≤ (1 : Int)))
                (((True ∧ (True ∧ (True ∧ True)))) ∧
                ((true = true) ∧
                True))
                ((true = false) ∧
                True))
               ((true = false) ∧
               True))
              ((true = false) ∧
              True))
             (br (ck a a == (0 : Int))
              (br (decide (ck a c < (0 : Int)))
               ((true = false) ∧
               True)
               ((true = false) ∧
               True))
              ((true = false) ∧
              True))))
           (br (decide (ck a (edW j) ≥ (-1 : Int)))
            (br (ck a a == (0 : Int))
             (br (decide (ck a (edW j) ≤ (1 : Int)))
              (((True ∧ (True ∧ (True ∧ True)))) ∧
              ((true = true) ∧
              True))
              ((true = false) ∧
              True))
             ((true = false) ∧
             True))
            (br (ck a a == (0 : Int))
             ((true = false) ∧
             True)
             ((true = false) ∧
             True))))))))))
         ((Value.float FloatKind.f64 (edW j) = Value.float FloatKind.f64 (edW j)) ∧
         ((Value.float FloatKind.f64 a = Value.float FloatKind.f64 a) ∧
         (br (decide (ck a (edW j) ≤ (0 : Int)))
          (br (!decide (ck (edW j) c ≤ (0 : Int)))
           (br (decide (ck a (edW j) < (0 : Int)))
            (br (!decide (ck (edW j) c ≤ (0 : Int)))
             (br (decide (ck a (edW j) ≥ (-1 : Int)))
              ((true = false) ∧
              True)
              ((true = false) ∧
              True))
             (br (decide (ck a (edW j) ≥ (-1 : Int)))
              ((true = false) ∧
              True)
              ((true = false) ∧
              True)))
            (br (decide (ck a (edW j) ≥ (-1 : Int)))
             ((true = false) ∧
             True)
             ((true = false) ∧
             True)))
           (br (decide (ck a (edW j) < (0 : Int)))
            (br (!decide (ck (edW j) c ≤ (0 : Int)))
             (br (decide (ck a (edW j) ≥ (-1 : Int)))
              ((true = false) ∧
              True)
              ((true = false) ∧
              True))
             (br (decide (ck a (edW j) ≥ (-1 : Int)))
              ((true = false) ∧
              True)
              ((true = false) ∧
              True)))
            (br (decide (ck a (edW j) ≥ (-1 : Int)))
             ((true = false) ∧
             True)
             ((true = false) ∧
             True))))
          (br (decide (ck a (edW j) < (0 : Int)))
           (br (!decide (ck (edW j) c ≤ (0 : Int)))
            (br (decide (ck a (edW j) ≥ (-1 : Int)))
             ((true = false) ∧
             True)
             ((true = false) ∧
             True))
            (br (decide (ck a (edW j) ≥ (-1 : Int)))
             ((true = false) ∧
             True)
             ((true = false) ∧
             True)))
           (br (decide (ck a (edW j) ≥ (-1 : Int)))
            ((true = false) ∧
            True)
            ((true = false) ∧
            True))))))))))))))))))))))))
       ((((True ∧ (True ∧ True)) ∧ (True ∧ (True ∧ True)))) ∧
       ((((True ∧ (True ∧ True)) ∧ (True ∧ (True ∧ True)))) ∧
       ((((True ∧ (True ∧ True)) ∧ (True ∧ (True ∧ True)))) ∧
       ((Value.float FloatKind.f64 a = Value.float FloatKind.f64 a) ∧
       ((Value.float FloatKind.f64 (edW j) = Value.float FloatKind.f64 (edW j)) ∧
       ((Value.float FloatKind.f64 (edW j) = Value.float FloatKind.f64 (edW j)) ∧
       ((Value.float FloatKind.f64 (edW j) = Value.float FloatKind.f64 (edW j)) ∧
       ((Value.float FloatKind.f64 c = Value.float FloatKind.f64 c) ∧
       ((Value.float FloatKind.f64 c = Value.float FloatKind.f64 c) ∧
       ((Value.float FloatKind.f64 a = Value.float FloatKind.f64 a) ∧
       ((Value.float FloatKind.f64 a = Value.float FloatKind.f64 a) ∧
       ((Value.float FloatKind.f64 a = Value.float FloatKind.f64 a) ∧
       ((Value.float FloatKind.f64 c = Value.float FloatKind.f64 c) ∧
       ((Value.float FloatKind.f64 c = Value.float FloatKind.f64 c) ∧
       ((Value.float FloatKind.f64 c = Value.float FloatKind.f64 c) ∧
       ((((True ∧ (True ∧ True)) ∧ (True ∧ (True ∧ True)))) ∧
       (br (ck (edW j) a == IntKind.wrap IntKind.i64 ((0 : Int) - ck a (edW j)))
        ((((True ∧ (True ∧ True)) ∧ (True ∧ (True ∧ True)))) ∧
        ((Value.float FloatKind.f64 (edW j) = Value.float FloatKind.f64 (edW j)) ∧
        ((Value.float FloatKind.f64 a = Value.float FloatKind.f64 a) ∧
        ((Value.float FloatKind.f64 a = Value.float FloatKind.f64 a) ∧
        ((Value.float FloatKind.f64 a = Value.float FloatKind.f64 a) ∧
        (br (decide (ck a (edW j) ≤ (0 : Int)))
         (br (!decide (ck (edW j) c ≤ (0 : Int)))
          (br (decide (ck a (edW j) < (0 : Int)))
           (br (!decide (ck (edW j) c ≤ (0 : Int)))
            (br (decide (ck a (edW j) ≥ (-1 : Int)))
             (br (ck a a == (0 : Int))
              (br (decide (ck a (edW j) ≤ (1 : Int)))
               (((True ∧ (True ∧ (True ∧ True)))) ∧
               ((true = true) ∧
               True))
               ((true = false) ∧
               True))
              ((true = false) ∧
              True))
             (br (ck a a == (0 : Int))
              ((true = false) ∧
              True)
              ((true = false) ∧
              True)))
            (br (decide (ck a (edW j) ≥ (-1 : Int)))
             (br (ck a a == (0 : Int))
              (br (decide (ck a c < (0 : Int)))
               (br (decide (ck a (edW j) ≤ (1 : Int)))
                (((True ∧ (True ∧ (True ∧ True)))) ∧
                ((true = true) ∧
                True))
                ((true = false) ∧
                True))
               ((true = false) ∧
               True))
              ((true = false) ∧
              True))
             (br (ck a a == (0 : Int))
              (br (decide (ck a c < (0 : Int)))
               ((true = false) ∧
               True)
               ((true = false) ∧
               True))
              ((true = false) ∧
              True))))
           (br (decide (ck a (edW j) ≥ (-1 : Int)))
            (br (ck a a == (0 : Int))
             (br (decide (ck a (edW j) ≤ (1 : Int)))
              (((True ∧ (True ∧ (True ∧ True)))) ∧
              ((true = true) ∧
              True))
              ((true = false) ∧
              True))
             ((true = false) ∧
             True))
            (br (ck a a == (0 : Int))
             ((true = false) ∧
             True)
             ((true = false) ∧
             True))))
          (br (decide (ck a (edW j) < (0 : Int)))
           (br (!decide (ck (edW j) c ≤ (0 : Int)))
            (br (decide (ck a (edW j) ≥ (-1 : Int)))
             (br (ck a a == (0 : Int))
              (br (decide (ck a c ≤ (0 : Int)))
               (br (decide (ck a (edW j) ≤ (1 : Int)))
                (((True ∧ (True ∧ (True ∧ True)))) ∧
                ((true = true) ∧
                True))
                ((true = false) ∧
                True))
               ((true = false) ∧
               True))
              ((true = false) ∧
              True))
             (br (ck a a == (0 : Int))
              (br (decide (ck a c ≤ (0 : Int)))
               ((true = false) ∧
               True)
               ((true = false) ∧
               True))
              ((true = false) ∧
              True)))
            (br (decide (ck a (edW j) ≥ (-1 : Int)))
             (br (ck a a == (0 : Int))
              (br (decide (ck a c ≤ (0 : Int)))
               (br (decide (ck a c < (0 : Int)))
                (br (decide (ck a (edW j) ≤ (1 : Int)))
                 (((True ∧ (True ∧ (True ∧ True)))) ∧
                 ((true = true) ∧
                 True))
                 ((true = false) ∧
                 True))
                ((true = false) ∧
                True))
               ((true = false) ∧
               True))
              ((true = false) ∧
              True))
             (br (ck a a == (0 : Int))
              (br (decide (ck a c ≤ (0 : Int)))
               (br (decide (ck a c < (0 : Int)))
                ((true = false) ∧
                True)
                ((true = false) ∧
                True))
               ((true = false) ∧
               True))
              ((true = false) ∧
              True))))
           (br (decide (ck a (edW j) ≥ (-1 : Int)))
            (br (ck a a == (0 : Int))
             (br (decide (ck a c ≤ (0 : Int)))
              (br (decide (ck a (edW j) ≤ (1 : Int)))
               (((True ∧ (True ∧ (True ∧ True)))) ∧
               ((true = true) ∧
               True))
               ((true = false) ∧
               True))
              ((true = false) ∧
              True))
             ((true = false) ∧
             True))
            (br (ck a a == (0 : Int))
             (br (decide (ck a c ≤ (0 : Int)))
              ((true = false) ∧
              True)
              ((true = false) ∧
              True))
             ((true = false) ∧
             True)))))
         (br (decide (ck a (edW j) < (0 : Int)))
          (br (!decide (ck (edW j) c ≤ (0 : Int)))
           (br (decide (ck a (edW j) ≥ (-1 : Int)))
            (br (ck a a == (0 : Int))
             (br (decide (ck a (edW j) ≤ (1 : Int)))
              (((True ∧ (True ∧ (True ∧ True)))) ∧
              ((true = true) ∧
              True))
              ((true = false) ∧
              True))
             ((true = false) ∧
             True))
            (br (ck a a == (0 : Int))
             ((true = false) ∧
             True)
             ((true = false) ∧
             True)))
           (br (decide (ck a (edW j) ≥ (-1 : Int)))
            (br (ck a a == (0 : Int))
             (br (decide (ck a c < (0 : Int)))
              (br (decide (ck a (edW j) ≤ (1 : Int)))
               (((True ∧ (True ∧ (True ∧ True)))) ∧
               ((true = true) ∧
               True))
               ((true = false) ∧
               True))
              ((true = false) ∧
              True))
             ((true = false) ∧
             True))
            (br (ck a a == (0 : Int))
             (br (decide (ck a c < (0 : Int)))
              ((true = false) ∧
              True)
              ((true = false) ∧
              True))
             ((true = false) ∧
             True))))
          (br (decide (ck a (edW j) ≥ (-1 : Int)))
           (br (ck a a == (0 : Int))
            (br (decide (ck a (edW j) ≤ (1 : Int)))
             (((True ∧ (True ∧ (True ∧ True)))) ∧
             ((true = true) ∧
             True))
             ((true = false) ∧
             True))
            ((true = false) ∧
            True))
           (br (ck a a == (0 : Int))
            ((true = false) ∧
            True)
            ((true = false) ∧
            True))))))))))
        ((Value.float FloatKind.f64 (edW j) = Value.float FloatKind.f64 (edW j)) ∧
        ((Value.float FloatKind.f64 a = Value.float FloatKind.f64 a) ∧
        (br (decide (ck a (edW j) ≤ (0 : Int)))
         (br (!decide (ck (edW j) c ≤ (0 : Int)))
          (br (decide (ck a (edW j) < (0 : Int)))
           (br (!decide (ck (edW j) c ≤ (0 : Int)))
            (br (decide (ck a (edW j) ≥ (-1 : Int)))
             ((true = false) ∧
             True)
             ((true = false) ∧
             True))
            (br (decide (ck a (edW j) ≥ (-1 : Int)))
             ((true = false) ∧
             True)
             ((true = false) ∧
             True)))
           (br (decide (ck a (edW j) ≥ (-1 : Int)))
            ((true = false) ∧
            True)
            ((true = false) ∧
            True)))
          (br (decide (ck a (edW j) < (0 : Int)))
           (br (!decide (ck (edW j) c ≤ (0 : Int)))
            (br (decide (ck a (edW j) ≥ (-1 : Int)))
             ((true = false) ∧
             True)
             ((true = false) ∧
             True))
            (br (decide (ck a (edW j) ≥ (-1 : Int)))
             ((true = false) ∧
             True)
             ((true = false) ∧
             True)))
           (br (decide (ck a (edW j) ≥ (-1 : Int)))
            ((true = false) ∧
            True)
            ((true = false) ∧
            True))))
         (br (decide (ck a (edW j) < (0 : Int)))
          (br (!decide (ck (edW j) c ≤ (0 : Int)))
           (br (decide (ck a (edW j) ≥ (-1 : Int)))
            ((true = false) ∧
            True)
            ((true = false) ∧
            True))
           (br (decide (ck a (edW j) ≥ (-1 : Int)))
            ((true = false) ∧
            True)
            ((true = false) ∧
            True)))
          (br (decide (ck a (edW j) ≥ (-1 : Int)))
           ((true = false) ∧
           True)
           ((true = false) ∧
           True)))))))))))))))))))))))))
      (br (decide (k ≥ (0 : Int)))
       (br (decide (k ≤ (4 : Int)))
        ((((True ∧ True) ∧ (True ∧ (True ∧ ((0 : Int) ≤ k ∧ k ≤ (4 : Int)))))) ∧
        ((((True ∧ (True ∧ True)) ∧ (True ∧ (True ∧ True)))) ∧
        ((((True ∧ (True ∧ True)) ∧ (True ∧ (True ∧ True)))) ∧
        ((((True ∧ (True ∧ True)) ∧ (True ∧ (True ∧ True)))) ∧
        ((Value.float FloatKind.f64 a = Value.float FloatKind.f64 a) ∧
        ((Value.float FloatKind.f64 b = Value.float FloatKind.f64 b) ∧
        ((Value.float FloatKind.f64 b = Value.float FloatKind.f64 b) ∧
        ((Value.float FloatKind.f64 b = Value.float FloatKind.f64 b) ∧
        ((Value.float FloatKind.f64 (edW k) = Value.float FloatKind.f64 (edW k)) ∧
        ((Value.float FloatKind.f64 (edW k) = Value.float FloatKind.f64 (edW k)) ∧
        ((Value.float FloatKind.f64 a = Value.float FloatKind.f64 a) ∧
        ((Value.float FloatKind.f64 a = Value.float FloatKind.f64 a) ∧
        ((Value.float FloatKind.f64 a = Value.float FloatKind.f64 a) ∧
        ((Value.float FloatKind.f64 (edW k) = Value.float FloatKind.f64 (edW k)) ∧
        ((Value.float FloatKind.f64 (edW k) = Value.float FloatKind.f64 (edW k)) ∧
        ((Value.float FloatKind.f64 (edW k) = Value.float FloatKind.f64 (edW k)) ∧
        ((((True ∧ (True ∧ True)) ∧ (True ∧ (True ∧ True)))) ∧
        (br (ck b a == IntKind.wrap IntKind.i64 ((0 : Int) - ck a b))
         ((((True ∧ (True ∧ True)) ∧ (True ∧ (True ∧ True)))) ∧
         ((Value.float FloatKind.f64 b = Value.float FloatKind.f64 b) ∧
         ((Value.float FloatKind.f64 a = Value.float FloatKind.f64 a) ∧
         ((Value.float FloatKind.f64 a = Value.float FloatKind.f64 a) ∧
         ((Value.float FloatKind.f64 a = Value.float FloatKind.f64 a) ∧
         (br (decide (ck a b ≤ (0 : Int)))
          (br (!decide (ck b (edW k) ≤ (0 : Int)))
           (br (decide (ck a b < (0 : Int)))
            (br (!decide (ck b (edW k) ≤ (0 : Int)))
             (br (decide (ck a b ≥ (-1 : Int)))
              (br (ck a a == (0 : Int))
               (br (decide (ck a b ≤ (1 : Int)))
                (((True ∧ (True ∧ (True ∧ True)))) ∧
                ((true = true) ∧
                True))
                ((true = false) ∧
                True))
               ((true = false) ∧
               True))
              (br (ck a a == (0 : Int))
               ((true = false) ∧
               True)
               ((true = false) ∧
               True)))
             (br (decide (ck a b ≥ (-1 : Int)))
              (br (ck a a == (0 : Int))
               (br (decide (ck a (edW k) < (0 : Int)))
                (br (decide (ck a b ≤ (1 : Int)))
                 (((True ∧ (True ∧ (True ∧ True)))) ∧
                 ((true = true) ∧
                 True))
                 ((true = false) ∧
                 True))
                ((true = false) ∧
                True))
               ((true = false) ∧
               True))
              (br (ck a a == (0 : Int))
               (br (decide (ck a (edW k) < (0 : Int)))
                ((true = false) ∧
                True)
                ((true = false) ∧
                True))
               ((true = false) ∧
               True))))
            (br (decide (ck a b ≥ (-1 : Int)))
             (br (ck a a == (0 : Int))
              (br (decide (ck a b ≤ (1 : Int)))
               (((True ∧ (True ∧ (True ∧ True)))) ∧
               ((true = true) ∧
               True))
               ((true = false) ∧
               True))
              ((true = false) ∧
              True))
             (br (ck a a == (0 : Int))
              ((true = false) ∧
              True)
              ((true = false) ∧
              True))))
           (br (decide (ck a b < (0 : Int)))
            (br (!decide (ck b (edW k) ≤ (0 : Int)))
             (br (decide (ck a b ≥ (-1 : Int)))
              (br (ck a a == (0 : Int))
               (br (decide (ck a (edW k) ≤ (0 : Int)))
                (br (decide (ck a b ≤ (1 : Int)))
                 (((True ∧ (True ∧ (True ∧ True)))) ∧
                 ((true = true) ∧
                 True))
                 ((true = false) ∧
                 True))
                ((true = false) ∧
                True))
               ((true = false) ∧
               True))
              (br (ck a a == (0 : Int))
               (br (decide (ck a (edW k) ≤ (0 : Int)))
                ((true = false) ∧
                True)
                ((true = false) ∧
                True))
               ((true = false) ∧
               True)))
             (br (decide (ck a b ≥ (-1 : Int)))
              (br (ck a a == (0 : Int))
               (br (decide (ck a (edW k) ≤ (0 : Int)))
                (br (decide (ck a (edW k) < (0 : Int)))
                 (br (decide (ck a b ≤ (1 : Int)))
                  (((True ∧ (True ∧ (True ∧ True)))) ∧
                  ((true = true) ∧
                  True))
                  ((true = false) ∧
                  True))
                 ((true = false) ∧
                 True))
                ((true = false) ∧
                True))
               ((true = false) ∧
               True))
              (br (ck a a == (0 : Int))
               (br (decide (ck a (edW k) ≤ (0 : Int)))
                (br (decide (ck a (edW k) < (0 : Int)))
                 ((true = false) ∧
                 True)
                 ((true = false) ∧
                 True))
                ((true = false) ∧
                True))
               ((true = false) ∧
               True))))
            (br (decide (ck a b ≥ (-1 : Int)))
             (br (ck a a == (0 : Int))
              (br (decide (ck a (edW k) ≤ (0 : Int)))
               (br (decide (ck a b ≤ (1 : Int)))
                (((True ∧ (True ∧ (True ∧ True)))) ∧
                ((true = true) ∧
                True))
                ((true = false) ∧
                True))
               ((true = false) ∧
               True))
              ((true = false) ∧
              True))
             (br (ck a a == (0 : Int))
              (br (decide (ck a (edW k) ≤ (0 : Int)))
               ((true = false) ∧
               True)
               ((true = false) ∧
               True))
              ((true = false) ∧
              True)))))
          (br (decide (ck a b < (0 : Int)))
           (br (!decide (ck b (edW k) ≤ (0 : Int)))
            (br (decide (ck a b ≥ (-1 : Int)))
             (br (ck a a == (0 : Int))
              (br (decide (ck a b ≤ (1 : Int)))
               (((True ∧ (True ∧ (True ∧ True)))) ∧
               ((true = true) ∧
               True))
               ((true = false) ∧
               True))
              ((true = false) ∧
              True))
             (br (ck a a == (0 : Int))
              ((true = false) ∧
              True)
              ((true = false) ∧
              True)))
            (br (decide (ck a b ≥ (-1 : Int)))
             (br (ck a a == (0 : Int))
              (br (decide (ck a (edW k) < (0 : Int)))
               (br (decide (ck a b ≤ (1 : Int)))
                (((True ∧ (True ∧ (True ∧ True)))) ∧
                ((true = true) ∧
                True))
                ((true = false) ∧
                True))
               ((true = false) ∧
               True))
              ((true = false) ∧
              True))
             (br (ck a a == (0 : Int))
              (br (decide (ck a (edW k) < (0 : Int)))
               ((true = false) ∧
               True)
               ((true = false) ∧
               True))
              ((true = false) ∧
              True))))
           (br (decide (ck a b ≥ (-1 : Int)))
            (br (ck a a == (0 : Int))
             (br (decide (ck a b ≤ (1 : Int)))
              (((True ∧ (True ∧ (True ∧ True)))) ∧
              ((true = true) ∧
              True))
              ((true = false) ∧
              True))
             ((true = false) ∧
             True))
            (br (ck a a == (0 : Int))
             ((true = false) ∧
             True)
             ((true = false) ∧
             True))))))))))
         ((Value.float FloatKind.f64 b = Value.float FloatKind.f64 b) ∧
         ((Value.float FloatKind.f64 a = Value.float FloatKind.f64 a) ∧
         (br (decide (ck a b ≤ (0 : Int)))
          (br (!decide (ck b (edW k) ≤ (0 : Int)))
           (br (decide (ck a b < (0 : Int)))
            (br (!decide (ck b (edW k) ≤ (0 : Int)))
             (br (decide (ck a b ≥ (-1 : Int)))
              ((true = false) ∧
              True)
              ((true = false) ∧
              True))
             (br (decide (ck a b ≥ (-1 : Int)))
              ((true = false) ∧
              True)
              ((true = false) ∧
              True)))
            (br (decide (ck a b ≥ (-1 : Int)))
             ((true = false) ∧
             True)
             ((true = false) ∧
             True)))
           (br (decide (ck a b < (0 : Int)))
            (br (!decide (ck b (edW k) ≤ (0 : Int)))
             (br (decide (ck a b ≥ (-1 : Int)))
              ((true = false) ∧
              True)
              ((true = false) ∧
              True))
             (br (decide (ck a b ≥ (-1 : Int)))
              ((true = false) ∧
              True)
              ((true = false) ∧
              True)))
            (br (decide (ck a b ≥ (-1 : Int)))
             ((true = false) ∧
             True)
             ((true = false) ∧
             True))))
          (br (decide (ck a b < (0 : Int)))
           (br (!decide (ck b (edW k) ≤ (0 : Int)))
            (br (decide (ck a b ≥ (-1 : Int)))
             ((true = false) ∧
             True)
             ((true = false) ∧
             True))
            (br (decide (ck a b ≥ (-1 : Int)))
             ((true = false) ∧
             True)
             ((true = false) ∧
             True)))
           (br (decide (ck a b ≥ (-1 : Int)))
            ((true = false) ∧
            True)
            ((true = false) ∧
            True))))))))))))))))))))))))
        ((((True ∧ (True ∧ True)) ∧ (True ∧ (True ∧ True)))) ∧
        ((((True ∧ (True ∧ True)) ∧ (True ∧ (True ∧ True)))) ∧
        ((((True ∧ (True ∧ True)) ∧ (True ∧ (True ∧ True)))) ∧
        ((Value.float FloatKind.f64 a = Value.float FloatKind.f64 a) ∧
        ((Value.float FloatKind.f64 b = Value.float FloatKind.f64 b) ∧
        ((Value.float FloatKind.f64 b = Value.float FloatKind.f64 b) ∧
        ((Value.float FloatKind.f64 b = Value.float FloatKind.f64 b) ∧
        ((Value.float FloatKind.f64 c = Value.float FloatKind.f64 c) ∧
        ((Value.float FloatKind.f64 c = Value.float FloatKind.f64 c) ∧
        ((Value.float FloatKind.f64 a = Value.float FloatKind.f64 a) ∧
        ((Value.float FloatKind.f64 a = Value.float FloatKind.f64 a) ∧
        ((Value.float FloatKind.f64 a = Value.float FloatKind.f64 a) ∧
        ((Value.float FloatKind.f64 c = Value.float FloatKind.f64 c) ∧
        ((Value.float FloatKind.f64 c = Value.float FloatKind.f64 c) ∧
        ((Value.float FloatKind.f64 c = Value.float FloatKind.f64 c) ∧
        ((((True ∧ (True ∧ True)) ∧ (True ∧ (True ∧ True)))) ∧
        (br (ck b a == IntKind.wrap IntKind.i64 ((0 : Int) - ck a b))
         ((((True ∧ (True ∧ True)) ∧ (True ∧ (True ∧ True)))) ∧
         ((Value.float FloatKind.f64 b = Value.float FloatKind.f64 b) ∧
         ((Value.float FloatKind.f64 a = Value.float FloatKind.f64 a) ∧
         ((Value.float FloatKind.f64 a = Value.float FloatKind.f64 a) ∧
         ((Value.float FloatKind.f64 a = Value.float FloatKind.f64 a) ∧
         (br (decide (ck a b ≤ (0 : Int)))
          (br (!decide (ck b c ≤ (0 : Int)))
           (br (decide (ck a b < (0 : Int)))
            (br (!decide (ck b c ≤ (0 : Int)))
             (br (decide (ck a b ≥ (-1 : Int)))
              (br (ck a a == (0 : Int))
               (br (decide (ck a b ≤ (1 : Int)))
                (((True ∧ (True ∧ (True ∧ True)))) ∧
                ((true = true) ∧
                True))
                ((true = false) ∧
                True))
               ((true = false) ∧
               True))
              (br (ck a a == (0 : Int))
               ((true = false) ∧
               True)
               ((true = false) ∧
               True)))
             (br (decide (ck a b ≥ (-1 : Int)))
              (br (ck a a == (0 : Int))
               (br (decide (ck a c < (0 : Int)))
                (br (decide (ck a b ≤ (1 : Int)))
                 (((True ∧ (True ∧ (True ∧ True)))) ∧
                 ((true = true) ∧
                 True))
                 ((true = false) ∧
                 True))
                ((true = false) ∧
                True))
               ((true = false) ∧
               True))
              (br (ck a a == (0 : Int))
               (br (decide (ck a c < (0 : Int)))
                ((true = false) ∧
                True)
                ((true = false) ∧
                True))
               ((true = false) ∧
               True))))
            (br (decide (ck a b ≥ (-1 : Int)))
             (br (ck a a == (0 : Int))
              (br (decide (ck a b ≤ (1 : Int)))
               (((True ∧ (True ∧ (True ∧ True)))) ∧
               ((true = true) ∧
               True))
               ((true = false) ∧
               True))
              ((true = false) ∧
              True))
             (br (ck a a == (0 : Int))
              ((true = false) ∧
              True)
              ((true = false) ∧
              True))))
           (br (decide (ck a b < (0 : Int)))
            (br (!decide (ck b c ≤ (0 : Int)))
             (br (decide (ck a b ≥ (-1 : Int)))
              (br (ck a a == (0 : Int))
               (br (decide (ck a c ≤ (0 : Int)))
                (br (decide (ck a b ≤ (1 : Int)))
                 (((True ∧ (True ∧ (True ∧ True)))) ∧
                 ((true = true) ∧
                 True))
                 ((true = false) ∧
                 True))
                ((true = false) ∧
                True))
               ((true = false) ∧
               True))
              (br (ck a a == (0 : Int))
               (br (decide (ck a c ≤ (0 : Int)))
                ((true = false) ∧
                True)
                ((true = false) ∧
                True))
               ((true = false) ∧
               True)))
             (br (decide (ck a b ≥ (-1 : Int)))
              (br (ck a a == (0 : Int))
               (br (decide (ck a c ≤ (0 : Int)))
                (br (decide (ck a c < (0 : Int)))
                 (br (decide (ck a b ≤ (1 : Int)))
                  (((True ∧ (True ∧ (True ∧ True)))) ∧
                  ((true = true) ∧
                  True))
                  ((true = false) ∧
                  True))
                 ((true = false) ∧
                 True))
                ((true = false) ∧
                True))
               ((true = false) ∧
               True))
              (br (ck a a == (0 : Int))
               (br (decide (ck a c ≤ (0 : Int)))
                (br (decide (ck a c < (0 : Int)))
                 ((true = false) ∧
                 True)
                 ((true = false) ∧
                 True))
                ((true = false) ∧
                True))
               ((true = false) ∧
               True))))
            (br (decide (ck a b ≥ (-1 : Int)))
             (br (ck a a == (0 : Int))
              (br (decide (ck a c ≤ (0 : Int)))
               (br (decide (ck a b ≤ (1 : Int)))
                (((True ∧ (True ∧ (True ∧ True)))) ∧
                ((true = true) ∧
                True))
                ((true = false) ∧
                True))
               ((true = false) ∧
               True))
              ((true = false) ∧
              True))
             (br (ck a a == (0 : Int))
              (br (decide (ck a c ≤ (0 : Int)))
               ((true = false) ∧
               True)
               ((true = false) ∧
               True))
              ((true = false) ∧
              True)))))
          (br (decide (ck a b < (0 : Int)))
           (br (!decide (ck b c ≤ (0 : Int)))
            (br (decide (ck a b ≥ (-1 : Int)))
             (br (ck a a == (0 : Int))
              (br (decide (ck a b ≤ (1 : Int)))
               (((True ∧ (True ∧ (True ∧ True)))) ∧
               ((true = true) ∧
               True))
               ((true = false) ∧
               True))
              ((true = false) ∧
              True))
             (br (ck a a == (0 : Int))
              ((true = false) ∧
              True)
              ((true = false) ∧
              True)))
            (br (decide (ck a b ≥ (-1 : Int)))
             (br (ck a a == (0 : Int))
              (br (decide (ck a c < (0 : Int)))
               (br (decide (ck a b ≤ (1 : Int)))
                (((True ∧ (True ∧ (True ∧ True)))) ∧
                ((true = true) ∧
                True))
                ((true = false) ∧
                True))
               ((true = false) ∧
               True))
              ((true = false) ∧
              True))
             (br (ck a a == (0 : Int))
              (br (decide (ck a c < (0 : Int)))
               ((true = false) ∧
               True)
               ((true = false) ∧
               True))
              ((true = false) ∧
              True))))
           (br (decide (ck a b ≥ (-1 : Int)))
            (br (ck a a == (0 : Int))
             (br (decide (ck a b ≤ (1 : Int)))
              (((True ∧ (True ∧ (True ∧ True)))) ∧
              ((true = true) ∧
              True))
              ((true = false) ∧
              True))
             ((true = false) ∧
             True))
            (br (ck a a == (0 : Int))
             ((true = false) ∧
             True)
             ((true = false) ∧
             True))))))))))
         ((Value.float FloatKind.f64 b = Value.float FloatKind.f64 b) ∧
         ((Value.float FloatKind.f64 a = Value.float FloatKind.f64 a) ∧
         (br (decide (ck a b ≤ (0 : Int)))
          (br (!decide (ck b c ≤ (0 : Int)))
           (br (decide (ck a b < (0 : Int)))
            (br (!decide (ck b c ≤ (0 : Int)))
             (br (decide (ck a b ≥ (-1 : Int)))
              ((true = false) ∧
              True)
              ((true = false) ∧
              True))
             (br (decide (ck a b ≥ (-1 : Int)))
              ((true = false) ∧
              True)
              ((true = false) ∧
              True)))
            (br (decide (ck a b ≥ (-1 : Int)))
             ((true = false) ∧
             True)
             ((true = false) ∧
             True)))
           (br (decide (ck a b < (0 : Int)))
            (br (!decide (ck b c ≤ (0 : Int)))
             (br (decide (ck a b ≥ (-1 : Int)))
              ((true = false) ∧
              True)
              ((true = false) ∧
              True))
             (br (decide (ck a b ≥ (-1 : Int)))
              ((true = false) ∧
              True)
              ((true = false) ∧
              True)))
            (br (decide (ck a b ≥ (-1 : Int)))
             ((true = false) ∧
             True)
             ((true = false) ∧
             True))))
          (br (decide (ck a b < (0 : Int)))
           (br (!decide (ck b c ≤ (0 : Int)))
            (br (decide (ck a b ≥ (-1 : Int)))
             ((true = false) ∧
             True)
             ((true = false) ∧
             True))
            (br (decide (ck a b ≥ (-1 : Int)))
             ((true = false) ∧
             True)
             ((true = false) ∧
             True)))
           (br (decide (ck a b ≥ (-1 : Int)))
            ((true = false) ∧
            True)
            ((true = false) ∧
            True))))))))))))))))))))))))
       ((((True ∧ (True ∧ True)) ∧ (True ∧ (True ∧ True)))) ∧
       ((((True ∧ (True ∧ True)) ∧ (True ∧ (True ∧ True)))) ∧
       ((((True ∧ (True ∧ True)) ∧ (True ∧ (True ∧ True)))) ∧
       ((Value.float FloatKind.f64 a = Value.float FloatKind.f64 a) ∧
       ((Value.float FloatKind.f64 b = Value.float FloatKind.f64 b) ∧
       ((Value.float FloatKind.f64 b = Value.float FloatKind.f64 b) ∧
       ((Value.float FloatKind.f64 b = Value.float FloatKind.f64 b) ∧
       ((Value.float FloatKind.f64 c = Value.float FloatKind.f64 c) ∧
       ((Value.float FloatKind.f64 c = Value.float FloatKind.f64 c) ∧
       ((Value.float FloatKind.f64 a = Value.float FloatKind.f64 a) ∧
       ((Value.float FloatKind.f64 a = Value.float FloatKind.f64 a) ∧
       ((Value.float FloatKind.f64 a = Value.float FloatKind.f64 a) ∧
       ((Value.float FloatKind.f64 c = Value.float FloatKind.f64 c) ∧
       ((Value.float FloatKind.f64 c = Value.float FloatKind.f64 c) ∧
       ((Value.float FloatKind.f64 c = Value.float FloatKind.f64 c) ∧
       ((((True ∧ (True ∧ True)) ∧ (True ∧ (True ∧ True)))) ∧
       (br (ck b a == IntKind.wrap IntKind.i64 ((0 : Int) - ck a b))
        ((((True ∧ (True ∧ True)) ∧ (True ∧ (True ∧ True)))) ∧
        ((Value.float FloatKind.f64 b = Value.float FloatKind.f64 b) ∧
        ((Value.float FloatKind.f64 a = Value.float FloatKind.f64 a) ∧
        ((Value.float FloatKind.f64 a = Value.float FloatKind.f64 a) ∧
        ((Value.float FloatKind.f64 a = Value.float FloatKind.f64 a) ∧
        (br (decide (ck a b ≤ (0 : Int)))
         (br (!decide (ck b c ≤ (0 : Int)))
          (br (decide (ck a b < (0 : Int)))
           (br (!decide (ck b c ≤ (0 : Int)))
            (br (decide (ck a b ≥ (-1 : Int)))
             (br (ck a a == (0 : Int))
              (br (decide (ck a b ≤ (1 : Int)))
               (((True ∧ (True ∧ (True ∧ True)))) ∧
               ((true = true) ∧
               True))
               ((true = false) ∧
               True))
              ((true = false) ∧
              True))
             (br (ck a a == (0 : Int))
              ((true = false) ∧
              True)
              ((true = false) ∧
              True)))
            (br (decide (ck a b ≥ (-1 : Int)))
             (br (ck a a == (0 : Int))
              (br (decide (ck a c < (0 : Int)))
               (br (decide (ck a b ≤ (1 : Int)))
                (((True ∧ (True ∧ (True ∧ True)))) ∧
                ((true = true) ∧
                True))
                ((true = false) ∧
                True))
               ((true = false) ∧
               True))
              ((true = false) ∧
              True))
             (br (ck a a == (0 : Int))
              (br (decide (ck a c < (0 : Int)))
               ((true = false) ∧
               True)
               ((true = false) ∧
               True))
              ((true = false) ∧
              True))))
           (br (decide (ck a b ≥ (-1 : Int)))
            (br (ck a a == (0 : Int))
             (br (decide (ck a b ≤ (1 : Int)))
              (((True ∧ (True ∧ (True ∧ True)))) ∧
              ((true = true) ∧
              True))
              ((true = false) ∧
              True))
             ((true = false) ∧
             True))
            (br (ck a a == (0 : Int))
             ((true = false) ∧
             True)
             ((true = false) ∧
             True))))
          (br (decide (ck a b < (0 : Int)))
           (br (!decide (ck b c ≤ (0 : Int)))
            (br (decide (ck a b ≥ (-1 : Int)))
             (br (ck a a == (0 : Int))
              (br (decide (ck a c ≤ (0 : Int)))
               (br (decide (ck a b ≤ (1 : Int)))
                (((True ∧ (True ∧ (True ∧ True)))) ∧
                ((true = true) ∧
                True))
                ((true = false) ∧
                True))
               ((true = false) ∧
               True))
              ((true = false) ∧
              True))
             (br (ck a a == (0 : Int))
              (br (decide (ck a c ≤ (0 : Int)))
               ((true = false) ∧
               True)
               ((true = false) ∧
               True))
              ((true = false) ∧
              True)))
            (br (decide (ck a b ≥ (-1 : Int)))
             (br (ck a a == (0 : Int))
              (br (decide (ck a c ≤ (0 : Int)))
               (br (decide (ck a c < (0 : Int)))
                (br (decide (ck a b ≤ (1 : Int)))
                 (((True ∧ (True ∧ (True ∧ True)))) ∧
                 ((true = true) ∧
                 True))
                 ((true = false) ∧
                 True))
                ((true = false) ∧
                True))
               ((true = false) ∧
               True))
              ((true = false) ∧
              True))
             (br (ck a a == (0 : Int))
              (br (decide (ck a c ≤ (0 : Int)))
               (br (decide (ck a c < (0 : Int)))
                ((true = false) ∧
                True)
                ((true = false) ∧
                True))
               ((true = false) ∧
               True))
              ((true = false) ∧
              True))))
           (br (decide (ck a b ≥ (-1 : Int)))
            (br (ck a a == (0 : Int))
             (br (decide (ck a c ≤ (0 : Int)))
              (br (decide (ck a b ≤ (1 : Int)))
               (((True ∧ (True ∧ (True ∧ True)))) ∧
               ((true = true) ∧
               True))
               ((true = false) ∧
               True))
              ((true = false) ∧
              True))
             ((true = false) ∧
             True))
            (br (ck a a == (0 : Int))
             (br (decide (ck a c ≤ (0 : Int)))
              ((true = false) ∧
              True)
              ((true = false) ∧
              True))
             ((true = false) ∧
             True)))))
         (br (decide (ck a b < (0 : Int)))
          (br (!decide (ck b c ≤ (0 : Int)))
           (br (decide (ck a b ≥ (-1 : Int)))
            (br (ck a a == (0 : Int))
             (br (decide (ck a b ≤ (1 : Int)))
              (((True ∧ (True ∧ (True ∧ True)))) ∧
              ((true = true) ∧
              True))
              ((true = false) ∧
              True))
             ((true = false) ∧
             True))
            (br (ck a a == (0 : Int))
             ((true = false) ∧
             True)
             ((true = false) ∧
             True)))
           (br (decide (ck a b ≥ (-1 : Int)))
            (br (ck a a == (0 : Int))
             (br (decide (ck a c < (0 : Int)))
              (br (decide (ck a b ≤ (1 : Int)))
               (((True ∧ (True ∧ (True ∧ True)))) ∧
               ((true = true) ∧
               True))
               ((true = false) ∧
               True))
              ((true = false) ∧
              True))
             ((true = false) ∧
             True))
            (br (ck a a == (0 : Int))
             (br (decide (ck a c < (0 : Int)))
              ((true = false) ∧
              True)
              ((true = false) ∧
              True))
             ((true = false) ∧
             True))))
          (br (decide (ck a b ≥ (-1 : Int)))
           (br (ck a a == (0 : Int))
            (br (decide (ck a b ≤ (1 : Int)))
             (((True ∧ (True ∧ (True ∧ True)))) ∧
             ((true = true) ∧
             True))
             ((true = false) ∧
             True))
            ((true = false) ∧
            True))
           (br (ck a a == (0 : Int))
            ((true = false) ∧
            True)
            ((true = false) ∧
            True))))))))))
        ((Value.float FloatKind.f64 b = Value.float FloatKind.f64 b) ∧
        ((Value.float FloatKind.f64 a = Value.float FloatKind.f64 a) ∧
        (br (decide (ck a b ≤ (0 : Int)))
         (br (!decide (ck b c ≤ (0 : Int)))
          (br (decide (ck a b < (0 : Int)))
           (br (!decide (ck b c ≤ (0 : Int)))
            (br (decide (ck a b ≥ (-1 : Int)))
             ((true = false) ∧
             True)
             ((true = false) ∧
             True))
            (br (decide (ck a b ≥ (-1 : Int)))
             ((true = false) ∧
             True)
             ((true = false) ∧
             True)))
           (br (decide (ck a b ≥ (-1 : Int)))
            ((true = false) ∧
            True)
            ((true = false) ∧
            True)))
          (br (decide (ck a b < (0 : Int)))
           (br (!decide (ck b c ≤ (0 : Int)))
            (br (decide (ck a b ≥ (-1 : Int)))
             ((true = false) ∧
             True)
             ((true = false) ∧
             True))
            (br (decide (ck a b ≥ (-1 : Int)))
             ((true = false) ∧
             True)
             ((true = false) ∧
             True)))
           (br (decide (ck a b ≥ (-1 : Int)))
            ((true = false) ∧
            True)
            ((true = false) ∧
            True))))
         (br (decide (ck a b < (0 : Int)))
          (br (!decide (ck b c ≤ (0 : Int)))
           (br (decide (ck a b ≥ (-1 : Int)))
            ((true = false) ∧
            True)
            ((true = false) ∧
            True))
           (br (decide (ck a b ≥ (-1 : Int)))
            ((true = false) ∧
            True)
            ((true = false) ∧
            True)))
          (br (decide (ck a b ≥ (-1 : Int)))
           ((true = false) ∧
           True)
           ((true = false) ∧
           True)))))))))))))))))))))))))
     (br (decide (k ≥ (0 : Int)))
      (br (decide (k ≤ (4 : Int)))
       ((((True ∧ True) ∧ (True ∧ (True ∧ ((0 : Int) ≤ k ∧ k ≤ (4 : Int)))))) ∧
       ((((True ∧ (True ∧ True)) ∧ (True ∧ (True ∧ True)))) ∧
       ((((True ∧ (True ∧ True)) ∧ (True ∧ (True ∧ True)))) ∧
       ((((True ∧ (True ∧ True)) ∧ (True ∧ (True ∧ True)))) ∧
       ((Value.float FloatKind.f64 a = Value.float FloatKind.f64 a) ∧
       ((Value.float FloatKind.f64 b = Value.float FloatKind.f64 b) ∧
       ((Value.float FloatKind.f64 b = Value.float FloatKind.f64 b) ∧
       ((Value.float FloatKind.f64 b = Value.float FloatKind.f64 b) ∧
       ((Value.float FloatKind.f64 (edW k) = Value.float FloatKind.f64 (edW k)) ∧
       ((Value.float FloatKind.f64 (edW k) = Value.float FloatKind.f64 (edW k)) ∧
       ((Value.float FloatKind.f64 a = Value.float FloatKind.f64 a) ∧
       ((Value.float FloatKind.f64 a = Value.float FloatKind.f64 a) ∧
       ((Value.float FloatKind.f64 a = Value.float FloatKind.f64 a) ∧
       ((Value.float FloatKind.f64 (edW k) = Value.float FloatKind.f64 (edW k)) ∧
       ((Value.float FloatKind.f64 (edW k) = Value.float FloatKind.f64 (edW k)) ∧
       ((Value.float FloatKind.f64 (edW k) = Value.float FloatKind.f64 (edW k)) ∧
       ((((True ∧ (True ∧ True)) ∧ (True ∧ (True ∧ True)))) ∧
       (br (ck b a == IntKind.wrap IntKind.i64 ((0 : Int) - ck a b))
        ((((True ∧ (True ∧ True)) ∧ (True ∧ (True ∧ True)))) ∧
        ((Value.float FloatKind.f64 b = Value.float FloatKind.f64 b) ∧
        ((Value.float FloatKind.f64 a = Value.float FloatKind.f64 a) ∧
        ((Value.float FloatKind.f64 a = Value.float FloatKind.f64 a) ∧
        ((Value.float FloatKind.f64 a = Value.float FloatKind.f64 a) ∧
        (br (decide (ck a b ≤ (0 : Int)))
         (br (!decide (ck b (edW k) ≤ (0 : Int)))
          (br (decide (ck a b < (0 : Int)))
           (br (!decide (ck b (edW k) ≤ (0 : Int)))
            (br (decide (ck a b ≥ (-1 : Int)))
             (br (ck a a == (0 : Int))
              (br (decide (ck a b ≤ (1 : Int)))
               (((True ∧ (True ∧ (True ∧ True)))) ∧
               ((true = true) ∧
               True))
               ((true = false) ∧
               True))
              ((true = false) ∧
              True))
             (br (ck a a == (0 : Int))
              ((true = false) ∧
              True)
              ((true = false) ∧
              True)))
            (br (decide (ck a b ≥ (-1 : Int)))
             (br (ck a a == (0 : Int))
              (br (decide (ck a (edW k) < (0 : Int)))
               (br (decide (ck a b ≤ (1 : Int)))
                (((True ∧ (True ∧ (True ∧ True)))) ∧
                ((true = true) ∧
                True))
                ((true = false) ∧
                True))
               ((true = false) ∧
               True))
              ((true = false) ∧
              True))
             (br (ck a a == (0 : Int))
              (br (decide (ck a (edW k) < (0 : Int)))
               ((true = false) ∧
               True)
               ((true = false) ∧
               True))
              ((true = false) ∧
              True))))
           (br (decide (ck a b ≥ (-1 : Int)))
            (br (ck a a == (0 : Int))
             (br (decide (ck a b ≤ (1 : Int)))
              (((True ∧ (True ∧ (True ∧ True)))) ∧
              ((true = true) ∧
              True))
              ((true = false) ∧
              True))
             ((true = false) ∧
             True))
            (br (ck a a == (0 : Int))
             ((true = false) ∧
             True)
             ((true = false) ∧
             True))))
          (br (decide (ck a b < (0 : Int)))
           (br (!decide (ck b (edW k) ≤ (0 : Int)))
            (br (decide (ck a b ≥ (-1 : Int)))
             (br (ck a a == (0 : Int))
              (br (decide (ck a (edW k) ≤ (0 : Int)))
               (br (decide (ck a b ≤ (1 : Int)))
                (((True ∧ (True ∧ (True ∧ True)))) ∧
                ((true = true) ∧
                True))
                ((true = false) ∧
                True))
               ((true = false) ∧
               True))
              ((true = false) ∧
              True))
             (br (ck a a == (0 : Int))
              (br (decide (ck a (edW k) ≤ (0 : Int)))
               ((true = false) ∧
               True)
               ((true = false) ∧
               True))
              ((true = false) ∧
              True)))
            (br (decide (ck a b ≥ (-1 : Int)))
             (br (ck a a == (0 : Int))
              (br (decide (ck a (edW k) ≤ (0 : Int)))
               (br (decide (ck a (edW k) < (0 : Int)))
                (br (decide (ck a b ≤ (1 : Int)))
                 (((True ∧ (True ∧ (True ∧ True)))) ∧
                 ((true = true) ∧
                 True))
                 ((true = false) ∧
                 True))
                ((true = false) ∧
                True))
               ((true = false) ∧
               True))
              ((true = false) ∧
              True))
             (br (ck a a == (0 : Int))
              (br (decide (ck a (edW k) ≤ (0 : Int)))
               (br (decide (ck a (edW k) < (0 : Int)))
                ((true = false) ∧
                True)
                ((true = false) ∧
                True))
               ((true = false) ∧
               True))
              ((true = false) ∧
              True))))
           (br (decide (ck a b ≥ (-1 : Int)))
            (br (ck a a == (0 : Int))
             (br (decide (ck a (edW k) ≤ (0 : Int)))
              (br (decide (ck a b ≤ (1 : Int)))
               (((True ∧ (True ∧ (True ∧ True)))) ∧
               ((true = true) ∧
               True))
               ((true = false) ∧
               True))
              ((true = false) ∧
              True))
             ((true = false) ∧
             True))
            (br (ck a a == (0 : Int))
             (br (decide (ck a (edW k) ≤ (0 : Int)))
              ((true = false) ∧
              True)
              ((true = false) ∧
              True))
             ((true = false) ∧
             True)))))
         (br (decide (ck a b < (0 : Int)))
          (br (!decide (ck b (edW k) ≤ (0 : Int)))
           (br (decide (ck a b ≥ (-1 : Int)))
            (br (ck a a == (0 : Int))
             (br (decide (ck a b ≤ (1 : Int)))
              (((True ∧ (True ∧ (True ∧ True)))) ∧
              ((true = true) ∧
              True))
              ((true = false) ∧
              True))
             ((true = false) ∧
             True))
            (br (ck a a == (0 : Int))
             ((true = false) ∧
             True)
             ((true = false) ∧
             True)))
           (br (decide (ck a b ≥ (-1 : Int)))
            (br (ck a a == (0 : Int))
             (br (decide (ck a (edW k) < (0 : Int)))
              (br (decide (ck a b ≤ (1 : Int)))
               (((True ∧ (True ∧ (True ∧ True)))) ∧
               ((true = true) ∧
               True))
               ((true = false) ∧
               True))
              ((true = false) ∧
              True))
             ((true = false) ∧
             True))
            (br (ck a a == (0 : Int))
             (br (decide (ck a (edW k) < (0 : Int)))
              ((true = false) ∧
              True)
              ((true = false) ∧
              True))
             ((true = false) ∧
             True))))
          (br (decide (ck a b ≥ (-1 : Int)))
           (br (ck a a == (0 : Int))
            (br (decide (ck a b ≤ (1 : Int)))
             (((True ∧ (True ∧ (True ∧ True)))) ∧
             ((true = true) ∧
             True))
             ((true = false) ∧
             True))
            ((true = false) ∧
            True))
           (br (ck a a == (0 : Int))
            ((true = false) ∧
            True)
            ((true = false) ∧
            True))))))))))
        ((Value.float FloatKind.f64 b = Value.float FloatKind.f64 b) ∧
        ((Value.float FloatKind.f64 a = Value.float FloatKind.f64 a) ∧
        (br (decide (ck a b ≤ (0 : Int)))
         (br (!decide (ck b (edW k) ≤ (0 : Int)))
          (br (decide (ck a b < (0 : Int)))
           (br (!decide (ck b (edW k) ≤ (0 : Int)))
            (br (decide (ck a b ≥ (-1 : Int)))
             ((true = false) ∧
             True)
             ((true = false) ∧
             True))
            (br (decide (ck a b ≥ (-1 : Int)))
             ((true = false) ∧
             True)
             ((true = false) ∧
             True)))
           (br (decide (ck a b ≥ (-1 : Int)))
            ((true = false) ∧
            True)
            ((true = false) ∧
            True)))
          (br (decide (ck a b < (0 : Int)))
           (br (!decide (ck b (edW k) ≤ (0 : Int)))
            (br (decide (ck a b ≥ (-1 : Int)))
             ((true = false) ∧
             True)
             ((true = false) ∧
             True))
            (br (decide (ck a b ≥ (-1 : Int)))
             ((true = false) ∧
             True)
             ((true = false) ∧
             True)))
           (br (decide (ck a b ≥ (-1 : Int)))
            ((true = false) ∧
            True)
            ((true = false) ∧
            True))))
         (br (decide (ck a b < (0 : Int)))
          (br (!decide (ck b (edW k) ≤ (0 : Int)))
           (br (decide (ck a b ≥ (-1 : Int)))
            ((true = false) ∧
            True)
            ((true = false) ∧
            True))
           (br (decide (ck a b ≥ (-1 : Int)))
            ((true = false) ∧
            True)
            ((true = false) ∧
            True)))
          (br (decide (ck a b ≥ (-1 : Int)))
           ((true = false) ∧
           True)
           ((true = false) ∧
           True))))))))))))))))))))))))
       ((((True ∧ (True ∧ True)) ∧ (True ∧ (True ∧ True)))) ∧
       ((((True ∧ (True ∧ True)) ∧ (True ∧ (True ∧ True)))) ∧
       ((((True ∧ (True ∧ True)) ∧ (True ∧ (True ∧ True)))) ∧
       ((Value.float FloatKind.f64 a = Value.float FloatKind.f64 a) ∧
       ((Value.float FloatKind.f64 b = Value.float FloatKind.f64 b) ∧
       ((Value.float FloatKind.f64 b = Value.float FloatKind.f64 b) ∧
       ((Value.float FloatKind.f64 b = Value.float FloatKind.f64 b) ∧
       ((Value.float FloatKind.f64 c = Value.float FloatKind.f64 c) ∧
       ((Value.float FloatKind.f64 c = Value.float FloatKind.f64 c) ∧
       ((Value.float FloatKind.f64 a = Value.float FloatKind.f64 a) ∧
       ((Value.float FloatKind.f64 a = Value.float FloatKind.f64 a) ∧
       ((Value.float FloatKind.f64 a = Value.float FloatKind.f64 a) ∧
       ((Value.float FloatKind.f64 c = Value.float FloatKind.f64 c) ∧
       ((Value.float FloatKind.f64 c = Value.float FloatKind.f64 c) ∧
       ((Value.float FloatKind.f64 c = Value.float FloatKind.f64 c) ∧
       ((((True ∧ (True ∧ True)) ∧ (True ∧ (True ∧ True)))) ∧
       (br (ck b a == IntKind.wrap IntKind.i64 ((0 : Int) - ck a b))
        ((((True ∧ (True ∧ True)) ∧ (True ∧ (True ∧ True)))) ∧
        ((Value.float FloatKind.f64 b = Value.float FloatKind.f64 b) ∧
        ((Value.float FloatKind.f64 a = Value.float FloatKind.f64 a) ∧
        ((Value.float FloatKind.f64 a = Value.float FloatKind.f64 a) ∧
        ((Value.float FloatKind.f64 a = Value.float FloatKind.f64 a) ∧
        (br (decide (ck a b ≤ (0 : Int)))
         (br (!decide (ck b c ≤ (0 : Int)))
          (br (decide (ck a b < (0 : Int)))
           (br (!decide (ck b c ≤ (0 : Int)))
            (br (decide (ck a b ≥ (-1 : Int)))
             (br (ck a a == (0 : Int))
              (br (decide (ck a b ≤ (1 : Int)))
               (((True ∧ (True ∧ (True ∧ True)))) ∧
               ((true = true) ∧
               True))
               ((true = false) ∧
               True))
              ((true = false) ∧
              True))
             (br (ck a a == (0 : Int))
              ((true = false) ∧
              True)
              ((true = false) ∧
              True)))
            (br (decide (ck a b ≥ (-1 : Int)))
             (br (ck a a == (0 : Int))
              (br (decide (ck a c < (0 : Int)))
               (br (decide (ck a b ≤ (1 : Int)))
                (((True ∧ (True ∧ (True ∧ True)))) ∧
                ((true = true) ∧
                True))
                ((true = false) ∧
                True))
               ((true = false) ∧
               True))
              ((true = false) ∧
              True))
             (br (ck a a == (0 : Int))
              (br (decide (ck a c < (0 : Int)))
               ((true = false) ∧
               True)
               ((true = false) ∧
               True))
              ((true = false) ∧
              True))))
           (br (decide (ck a b ≥ (-1 : Int)))
            (br (ck a a == (0 : Int))
             (br (decide (ck a b ≤ (1 : Int)))
              (((True ∧ (True ∧ (True ∧ True)))) ∧
              ((true = true) ∧
              True))
              ((true = false) ∧
              True))
             ((true = false) ∧
             True))
            (br (ck a a == (0 : Int))
             ((true = false) ∧
             True)
             ((true = false) ∧
             True))))
          (br (decide (ck a b < (0 : Int)))
           (br (!decide (ck b c ≤ (0 : Int)))
            (br (decide (ck a b ≥ (-1 : Int)))
             (br (ck a a == (0 : Int))
              (br (decide (ck a c ≤ (0 : Int)))
               (br (decide (ck a b ≤ (1 : Int)))
                (((True ∧ (True ∧ (True ∧ True)))) ∧
                ((true = true) ∧
                True))
                ((true = false) ∧
                True))
               ((true = false) ∧
               True))
              ((true = false) ∧
              True))
             (br (ck a a == (0 : Int))
              (br (decide (ck a c ≤ (0 : Int)))
               ((true = false) ∧
               True)
               ((true = false) ∧
               True))
              ((true = false) ∧
              True)))
            (br (decide (ck a b ≥ (-1 : Int)))
             (br (ck a a == (0 : Int))
              (br (decide (ck a c ≤ (0 : Int)))
               (br (decide (ck a c < (0 : Int)))
                (br (decide (ck a b ≤ (1 : Int)))
                 (((True ∧ (True ∧ (True ∧ True)))) ∧
                 ((true = true) ∧
                 True))
                 ((true = false) ∧
                 True))
                ((true = false) ∧
                True))
               ((true = false) ∧
               True))
              ((true = false) ∧
              True))
             (br (ck a a == (0 : Int))
              (br (decide (ck a c ≤ (0 : Int)))
               (br (decide (ck a c < (0 : Int)))
                ((true = false) ∧
                True)
                ((true = false) ∧
                True))
               ((true = false) ∧
               True))
              ((true = false) ∧
              True))))
           (br (decide (ck a b ≥ (-1 : Int)))
            (br (ck a a == (0 : Int))
             (br (decide (ck a c ≤ (0 : Int)))
              (br (decide (ck a b ≤ (1 : Int)))
               (((True ∧ (True ∧ (True ∧ True)))) ∧
               ((true = true) ∧
               True))
               ((true = false) ∧
               True))
              ((true = false) ∧
              True))
             ((true = false) ∧
             True))
            (br (ck a a == (0 : Int))
             (br (decide (ck a c ≤ (0 : Int)))
              ((true = false) ∧
              True)
              ((true = false) ∧
              True))
             ((true = false) ∧
             True)))))
         (br (decide (ck a b < (0 : Int)))
          (br (!decide (ck b c ≤ (0 : Int)))
           (br (decide (ck a b ≥ (-1 : Int)))
            (br (ck a a == (0 : Int))
             (br (decide (ck a b ≤ (1 : Int)))
              (((True ∧ (True ∧ (True ∧ True)))) ∧
              ((true = true) ∧
              True))
              ((true = false) ∧
              True))
             ((true = false) ∧
             True))
            (br (ck a a == (0 : Int))
             ((true = false) ∧
             True)
             ((true = false) ∧
             True)))
           (br (decide (ck a b ≥ (-1 : Int)))
            (br (ck a a == (0 : Int))
             (br (decide (ck a c < (0 : Int)))
              (br (decide (ck a b ≤ (1 : Int)))
               (((True ∧ (True ∧ (True ∧ True)))) ∧
               ((true = true) ∧
               True))
               ((true = false) ∧
               True))
              ((true = false) ∧
              True))
             ((true = false) ∧
             True))
            (br (ck a a == (0 : Int))
             (br (decide (ck a c < (0 : Int)))
              ((true = false) ∧
              True)
              ((true = false) ∧
              True))
             ((true = false) ∧
             True))))
          (br (decide (ck a b ≥ (-1 : Int)))
           (br (ck a a == (0 : Int))
            (br (decide (ck a b ≤ (1 : Int)))
             (((True ∧ (True ∧ (True ∧ True)))) ∧
             ((true = true) ∧
             True))
             ((true = false) ∧
             True))
            ((true = false) ∧
            True))
           (br (ck a a == (0 : Int))
            ((true = false) ∧
            True)
            ((true = false) ∧
            True))))))))))
        ((Value.float FloatKind.f64 b = Value.float FloatKind.f64 b) ∧
        ((Value.float FloatKind.f64 a = Value.float FloatKind.f64 a) ∧
        (br (decide (ck a b ≤ (0 : Int)))
         (br (!decide (ck b c ≤ (0 : Int)))
          (br (decide (ck a b < (0 : Int)))
           (br (!decide (ck b c ≤ (0 : Int)))
            (br (decide (ck a b ≥ (-1 : Int)))
             ((true = false) ∧
             True)
             ((true = false) ∧
             True))
            (br (decide (ck a b ≥ (-1 : Int)))
             ((true = false) ∧
             True)
             ((true = false) ∧
             True)))
           (br (decide (ck a b ≥ (-1 : Int)))
            ((true = false) ∧
            True)
            ((true = false) ∧
            True)))
          (br (decide (ck a b < (0 : Int)))
           (br (!decide (ck b c ≤ (0 : Int)))
            (br (decide (ck a b ≥ (-1 : Int)))
             ((true = false) ∧
             True)
             ((true = false) ∧
             True))
            (br (decide (ck a b ≥ (-1 : Int)))
             ((true = false) ∧
             True)
             ((true = false) ∧
             True)))
           (br (decide (ck a b ≥ (-1 : Int)))
            ((true = false) ∧
            True)
            ((true = false) ∧
            True))))
         (br (decide (ck a b < (0 : Int)))
          (br (!decide (ck b c ≤ (0 : Int)))
           (br (decide (ck a b ≥ (-1 : Int)))
            ((true = false) ∧
            True)
            ((true = false) ∧
            True))
           (br (decide (ck a b ≥ (-1 : Int)))
            ((true = false) ∧
            True)
            ((true = false) ∧
            True)))
          (br (decide (ck a b ≥ (-1 : Int)))
           ((true = false) ∧
           True)
           ((true = false) ∧
           True))))))))))))))))))))))))
      ((((True ∧ (True ∧ True)) ∧ (True ∧ (True ∧ True)))) ∧
      ((((True ∧ (True ∧ True)) ∧ (True ∧ (True ∧ True)))) ∧
      ((((True ∧ (True ∧ True)) ∧ (True ∧ (True ∧ True)))) ∧
      ((Value.float FloatKind.f64 a = Value.float FloatKind.f64 a) ∧
      ((Value.float FloatKind.f64 b = Value.float FloatKind.f64 b) ∧
      ((Value.float FloatKind.f64 b = Value.float FloatKind.f64 b) ∧
      ((Value.float FloatKind.f64 b = Value.float FloatKind.f64 b) ∧
      ((Value.float FloatKind.f64 c = Value.float FloatKind.f64 c) ∧
      ((Value.float FloatKind.f64 c = Value.float FloatKind.f64 c) ∧
      ((Value.float FloatKind.f64 a = Value.float FloatKind.f64 a) ∧
      ((Value.float FloatKind.f64 a = Value.float FloatKind.f64 a) ∧
      ((Value.float FloatKind.f64 a = Value.float FloatKind.f64 a) ∧
      ((Value.float FloatKind.f64 c = Value.float FloatKind.f64 c) ∧
      ((Value.float FloatKind.f64 c = Value.float FloatKind.f64 c) ∧
      ((Value.float FloatKind.f64 c = Value.float FloatKind.f64 c) ∧
      ((((True ∧ (True ∧ True)) ∧ (True ∧ (True ∧ True)))) ∧
      (br (ck b a == IntKind.wrap IntKind.i64 ((0 : Int) - ck a b))
       ((((True ∧ (True ∧ True)) ∧ (True ∧ (True ∧ True)))) ∧
       ((Value.float FloatKind.f64 b = Value.float FloatKind.f64 b) ∧
       ((Value.float FloatKind.f64 a = Value.float FloatKind.f64 a) ∧
       ((Value.float FloatKind.f64 a = Value.float FloatKind.f64 a) ∧
       ((Value.float FloatKind.f64 a = Value.float FloatKind.f64 a) ∧
       (br (decide (ck a b ≤ (0 : Int)))
        (br (!decide (ck b c ≤ (0 : Int)))
         (br (decide (ck a b < (0 : Int)))
          (br (!decide (ck b c ≤ (0 : Int)))
           (br (decide (ck a b ≥ (-1 : Int)))
            (br (ck a a == (0 : Int))
             (br (decide (ck a b ≤ (1 : Int)))
              (((True ∧ (True ∧ (True ∧ True)))) ∧
              ((true = true) ∧
              True))
              ((true = false) ∧
              True))
             ((true = false) ∧
             True))
            (br (ck a a == (0 : Int))
             ((true = false) ∧
             True)
             ((true = false) ∧
             True)))
           (br (decide (ck a b ≥ (-1 : Int)))
            (br (ck a a == (0 : Int))
             (br (decide (ck a c < (0 : Int)))
              (br (decide (ck a b ≤ (1 : Int)))
               (((True ∧ (True ∧ (True ∧ True)))) ∧
               ((true = true) ∧
               True))
               ((true = false) ∧
               True))
              ((true = false) ∧
              True))
             ((true = false) ∧
             True))
            (br (ck a a == (0 : Int))
             (br (decide (ck a c < (0 : Int)))
              ((true = false) ∧
              True)
              ((true = false) ∧
              True))
             ((true = false) ∧
             True))))
          (br (decide (ck a b ≥ (-1 : Int)))
           (br (ck a a == (0 : Int))
            (br (decide (ck a b ≤ (1 : Int)))
             (((True ∧ (True ∧ (True ∧ True)))) ∧
             ((true = true) ∧
             True))
             ((true = false) ∧
             True))
            ((true = false) ∧
            True))
           (br (ck a a == (0 : Int))
            ((true = false) ∧
            True)
            ((true = false) ∧
            True))))
         (br (decide (ck a b < (0 : Int)))
          (br (!decide (ck b c ≤ (0 : Int)))
           (br (decide (ck a b ≥ (-1 : Int)))
            (br (ck a a == (0 : Int))
             (br (decide (ck a c ≤ (0 : Int)))
              (br (decide (ck a b ≤ (1 : Int)))
               (((True ∧ (True ∧ (True ∧ True)))) ∧
               ((true = true) ∧
               True))
               ((true = false) ∧
               True))
              ((true = false) ∧
              True))
             ((true = false) ∧
             True))
            (br (ck a a == (0 : Int))
             (br (decide (ck a c ≤ (0 : Int)))
              ((true = false) ∧
              True)
              ((true = false) ∧
              True))
             ((true = false) ∧
             True)))
           (br (decide (ck a b ≥ (-1 : Int)))
            (br (ck a a == (0 : Int))
             (br (decide (ck a c ≤ (0 : Int)))
              (br (decide (ck a c < (0 : Int)))
               (br (decide (ck a b ≤ (1 : Int)))
                (((True ∧ (True ∧ (True ∧ True)))) ∧
                ((true = true) ∧
                True))
                ((true = false) ∧
                True))
               ((true = false) ∧
               True))
              ((true = false) ∧
              True))
             ((true = false) ∧
             True))
            (br (ck a a == (0 : Int))
             (br (decide (ck a c ≤ (0 : Int)))
              (br (decide (ck a c < (0 : Int)))
               ((true = false) ∧
               True)
               ((true = false) ∧
               True))
              ((true = false) ∧
              True))
             ((true = false) ∧
             True))))
          (br (decide (ck a b ≥ (-1 : Int)))
           (br (ck a a == (0 : Int))
            (br (decide (ck a c ≤ (0 : Int)))
             (br (decide (ck a b ≤ (1 : Int)))
              (((True ∧ (True ∧ (True ∧ True)))) ∧
              ((true = true) ∧
              True))
              ((true = false) ∧
              True))
             ((true = false) ∧
             True))
            ((true = false) ∧
            True))
           (br (ck a a == (0 : Int))
            (br (decide (ck a c ≤ (0 : Int)))
             ((true = false) ∧
             True)
             ((true = false) ∧
             True))
            ((true = false) ∧
            True)))))
        (br (decide (ck a b < (0 : Int)))
         (br (!decide (ck b c ≤ (0 : Int)))
          (br (decide (ck a b ≥ (-1 : Int)))
           (br (ck a a == (0 : Int))
            (br (decide (ck a b ≤ (1 : Int)))
             (((True ∧ (True ∧ (True ∧ True)))) ∧
             ((true = true) ∧
             True))
             ((true = false) ∧
             True))
            ((true = false) ∧
            True))
           (br (ck a a == (0 : Int))
            ((true = false) ∧
            True)
            ((true = false) ∧
            True)))
          (br (decide (ck a b ≥ (-1 : Int)))
           (br (ck a a == (0 : Int))
            (br (decide (ck a c < (0 : Int)))
             (br (decide (ck a b ≤ (1 : Int)))
              (((True ∧ (True ∧ (True ∧ True)))) ∧
              ((true = true) ∧
              True))
              ((true = false) ∧
              True))
             ((true = false) ∧
             True))
            ((true = false) ∧
            True))
           (br (ck a a == (0 : Int))
            (br (decide (ck a c < (0 : Int)))
             ((true = false) ∧
             True)
             ((true = false) ∧
             True))
            ((true = false) ∧
            True))))
         (br (decide (ck a b ≥ (-1 : Int)))
          (br (ck a a == (0 : Int))
           (br (decide (ck a b ≤ (1 : Int)))
            (((True ∧ (True ∧ (True ∧ True)))) ∧
            ((true = true) ∧
            True))
            ((true = false) ∧
            True))
           ((true = false) ∧
           True))
          (br (ck a a == (0 : Int))
           ((true = false) ∧
           True)
           ((true = false) ∧
           True))))))))))
       ((Value.float FloatKind.f64 b = Value.float FloatKind.f64 b) ∧
       ((Value.float FloatKind.f64 a = Value.float FloatKind.f64 a) ∧
       (br (decide (ck a b ≤ (0 : Int)))
        (br (!decide (ck b c ≤ (0 : Int)))
         (br (decide (ck a b < (0 : Int)))
          (br (!decide (ck b c ≤ (0 : Int)))
           (br (decide (ck a b ≥ (-1 : Int)))
            ((true = false) ∧
            True)
            ((true = false) ∧
            True))
           (br (decide (ck a b ≥ (-1 : Int)))
            ((true = false) ∧
            True)
            ((true = false) ∧
            True)))
          (br (decide (ck a b ≥ (-1 : Int)))
           ((true = false) ∧
           True)
           ((true = false) ∧
           True)))
         (br (decide (ck a b < (0 : Int)))
          (br (!decide (ck b c ≤ (0 : Int)))
           (br (decide (ck a b ≥ (-1 : Int)))
            ((true = false) ∧
            True)
            ((true = false) ∧
            True))
           (br (decide (ck a b ≥ (-1 : Int)))
            ((true = false) ∧
            True)
            ((true = false) ∧
            True)))
          (br (decide (ck a b ≥ (-1 : Int)))
           ((true = false) ∧
           True)
           ((true = false) ∧
           True))))
        (br (decide (ck a b < (0 : Int)))
         (br (!decide (ck b c ≤ (0 : Int)))
          (br (decide (ck a b ≥ (-1 : Int)))
           ((true = false) ∧
           True)
           ((true = false) ∧
           True))
          (br (decide (ck a b ≥ (-1 : Int)))
           ((true = false) ∧
           True)
           ((true = false) ∧
           True)))
         (br (decide (ck a b ≥ (-1 : Int)))
          ((true = false) ∧
          True)
          ((true = false) ∧
          True))))))))))))))))))))))))))
   (br (decide (j ≥ (0 : Int)))
    (br (decide (j ≤ (4 : Int)))
     ((((True ∧ True) ∧ (True ∧ (True ∧ ((0 : Int) ≤ j ∧ j ≤ (4 : Int)))))) ∧
     (br (decide (k ≥ (0 : Int)))
      (br (decide (k ≤ (4 : Int)))
       ((((True ∧ True) ∧ (True ∧ (True ∧ ((0 : Int) ≤ k ∧ k ≤ (4 : Int)))))) ∧
       ((((True ∧ (True ∧ True)) ∧ (True ∧ (True ∧ True)))) ∧
       ((((True ∧ (True ∧ True)) ∧ (True ∧ (True ∧ True)))) ∧
       ((((True ∧ (True ∧ True)) ∧ (True ∧ (True ∧ True)))) ∧
       ((Value.float FloatKind.f64 a = Value.float FloatKind.f64 a) ∧
       ((Value.float FloatKind.f64 (edW j) = Value.float FloatKind.f64 (edW j)) ∧
       ((Value.float FloatKind.f64 (edW j) = Value.float FloatKind.f64 (edW j)) ∧
       ((Value.float FloatKind.f64 (edW j) = Value.float FloatKind.f64 (edW j)) ∧
       ((Value.float FloatKind.f64 (edW k) = Value.float FloatKind.f64 (edW k)) ∧
       ((Value.float FloatKind.f64 (edW k) = Value.float FloatKind.f64 (edW k)) ∧
       ((Value.float FloatKind.f64 a = Value.float FloatKind.f64 a) ∧
       ((Value.float FloatKind.f64 a = Value.float FloatKind.f64 a) ∧
       ((Value.float FloatKind.f64 a = Value.float FloatKind.f64 a) ∧
       ((Value.float FloatKind.f64 (edW k) = Value.float FloatKind.f64 (edW k)) ∧
       ((Value.float FloatKind.f64 (edW k) = Value.float FloatKind.f64 (edW k)) ∧
       ((Value.float FloatKind.f64 (edW k) = Value.float FloatKind.f64 (edW k)) ∧
       ((((True ∧ (True ∧ True)) ∧ (True ∧ (True ∧ True)))) ∧
       (br (ck (edW j) a == IntKind.wrap IntKind.i64 ((0 : Int) - ck a (edW j)))
        ((((True ∧ (True ∧ True)) ∧ (True ∧ (True ∧ True)))) ∧
        ((Value.float FloatKind.f64 (edW j) = Value.float FloatKind.f64 (edW j)) ∧
        ((Value.float FloatKind.f64 a = Value.float FloatKind.f64 a) ∧
        ((Value.float FloatKind.f64 a = Value.float FloatKind.f64 a) ∧
        ((Value.float FloatKind.f64 a = Value.float FloatKind.f64 a) ∧
        (br (decide (ck a (edW j) ≤ (0 : Int)))
         (br (!decide (ck (edW j) (edW k) ≤ (0 : Int)))
          (br (decide (ck a (edW j) < (0 : Int)))
           (br (!decide (ck (edW j) (edW k) ≤ (0 : Int)))
            (br (decide (ck a (edW j) ≥ (-1 : Int)))
             (br (ck a a == (0 : Int))
              (br (decide (ck a (edW j) ≤ (1 : Int)))
               (((True ∧ (True ∧ (True ∧ True)))) ∧
               ((true = true) ∧
               True))
               ((true = false) ∧
               True))
              ((true = false) ∧
              True))
             (br (ck a a == (0 : Int))
              ((true = false) ∧
              True)
              ((true = false) ∧
              True)))
            (br (decide (ck a (edW j) ≥ (-1 : Int)))
             (br (ck a a == (0 : Int))
              (br (decide (ck a (edW k) < (0 : Int)))
               (br (decide (ck a (edW j) ≤ (1 : Int)))
                (((True ∧ (True ∧ (True ∧ True)))) ∧
                ((true = true) ∧
                True))
                ((true = false) ∧
                True))
               ((true = false) ∧
               True))
              ((true = false) ∧
              True))
             (br (ck a a == (0 : Int))
              (br (decide (ck a (edW k) < (0 : Int)))
               ((true = false) ∧
               True)
               ((true = false) ∧
               True))
              ((true = false) ∧
              True))))
           (br (decide (ck a (edW j) ≥ (-1 : Int)))
            (br (ck a a == (0 : Int))
             (br (decide (ck a (edW j) ≤ (1 : Int)))
              (((True ∧ (True ∧ (True ∧ True)))) ∧
              ((true = true) ∧
              True))
              ((true = false) ∧
              True))
             ((true = false) ∧
             True))
            (br (ck a a == (0 : Int))
             ((true = false) ∧
             True)
             ((true = false) ∧
             True))))
          (br (decide (ck a (edW j) < (0 : Int)))
           (br (!decide (ck (edW j) (edW k) ≤ (0 : Int)))
            (br (decide (ck a (edW j) ≥ (-1 : Int)))
             (br (ck a a == (0 : Int))
              (br (decide (ck a (edW k) ≤ (0 : Int)))
               (br (decide (ck a (edW j) ≤ (1 : Int)))
                (((True ∧ (True ∧ (True ∧ True)))) ∧
                ((true = true) ∧
                True))
                ((true = false) ∧
                True))
               ((true = false) ∧
               True))
              ((true = false) ∧
              True))
             (br (ck a a == (0 : Int))
              (br (decide (ck a (edW k) ≤ (0 : Int)))
               ((true = false) ∧
               True)
               ((true = false) ∧
               True))
              ((true = false) ∧
              True)))
            (br (decide (ck a (edW j) ≥ (-1 : Int)))
             (br (ck a a == (0 : Int))
              (br (decide (ck a (edW k) ≤ (0 : Int)))
               (br (decide (ck a (edW k) < (0 : Int)))
                (br (decide (ck a (edW j) ≤ (1 : Int)))
                 (((True ∧ (True ∧ (True ∧ True)))) ∧
                 ((true = true) ∧
                 True))
                 ((true = false) ∧
                 True))
                ((true = false) ∧
                True))
               ((true = false) ∧
               True))
              ((true = false) ∧
              True))
             (br (ck a a == (0 : Int))
              (br (decide (ck a (edW k) ≤ (0 : Int)))
               (br (decide (ck a (edW k) < (0 : Int)))
                ((true = false) ∧
                True)
                ((true = false) ∧
                True))
               ((true = false) ∧
               True))
              ((true = false) ∧
              True))))
           (br (decide (ck a (edW j) ≥ (-1 : Int)))
            (br (ck a a == (0 : Int))
             (br (decide (ck a (edW k) ≤ (0 : Int)))
              (br (decide (ck a (edW j) ≤ (1 : Int)))
               (((True ∧ (True ∧ (True ∧ True)))) ∧
               ((true = true) ∧
               True))
               ((true = false) ∧
               True))
              ((true = false) ∧
              True))
             ((true = false) ∧
             True))
            (br (ck a a == (0 : Int))
             (br (decide (ck a (edW k) ≤ (0 : Int)))
              ((true = false) ∧
              True)
              ((true = false) ∧
              True))
             ((true = false) ∧
             True)))))
         (br (decide (ck a (edW j) < (0 : Int)))
          (br (!decide (ck (edW j) (edW k) ≤ (0 : Int)))
           (br (decide (ck a (edW j) ≥ (-1 : Int)))
            (br (ck a a == (0 : Int))
             (br (decide (ck a (edW j) ≤ (1 : Int)))
              (((True ∧ (True ∧ (True ∧ True)))) ∧
              ((true = true) ∧
              True))
              ((true = false) ∧
              True))
             ((true = false) ∧
             True))
            (br (ck a a == (0 : Int))
             ((true = false) ∧
             True)
             ((true = false) ∧
             True)))
           (br (decide (ck a (edW j) ≥ (-1 : Int)))
            (br (ck a a == (0 : Int))
             (br (decide (ck a (edW k) < (0 : Int)))
              (br (decide (ck a (edW j) ≤ (1 : Int)))
               (((True ∧ (True ∧ (True ∧ True)))) ∧
               ((true = true) ∧
               True))
               ((true = false) ∧
               True))
              ((true = false) ∧
              True))
             ((true = false) ∧
             True))
            (br (ck a a == (0 : Int))
             (br (decide (ck a (edW k) < (0 : Int)))
              ((true = false) ∧
              True)
              ((true = false) ∧
              True))
             ((true = false) ∧
             True))))
          (br (decide (ck a (edW j) ≥ (-1 : Int)))
           (br (ck a a == (0 : Int))
            (br (decide (ck a (edW j) ≤ (1 : Int)))
             (((True ∧ (True ∧ (True ∧ True)))) ∧
             ((true = true) ∧
             True))
             ((true = false) ∧
             True))
            ((true = false) ∧
            True))
           (br (ck a a == (0 : Int))
            ((true = false) ∧
            True)
            ((true = false) ∧
            True))))))))))
        ((Value.float FloatKind.f64 (edW j) = Value.float FloatKind.f64 (edW j)) ∧
        ((Value.float FloatKind.f64 a = Value.float FloatKind.f64 a) ∧
        (br (decide (ck a (edW j) ≤ (0 : Int)))
         (br (!decide (ck (edW j) (edW k) ≤ (0 : Int)))
          (br (decide (ck a (edW j) < (0 : Int)))
           (br (!decide (ck (edW j) (edW k) ≤ (0 : Int)))
            (br (decide (ck a (edW j) ≥ (-1 : Int)))
             ((true = false) ∧
             True)
             ((true = false) ∧
             True))
            (br (decide (ck a (edW j) ≥ (-1 : Int)))
             ((true = false) ∧
             True)
             ((true = false) ∧
             True)))
           (br (decide (ck a (edW j) ≥ (-1 : Int)))
            ((true = false) ∧
            True)
            ((true = false) ∧
            True)))
          (br (decide (ck a (edW j) < (0 : Int)))
           (br (!decide (ck (edW j) (edW k) ≤ (0 : Int)))
            (br (decide (ck a (edW j) ≥ (-1 : Int)))
             ((true = false) ∧
             True)
             ((true = false) ∧
             True))
            (br (decide (ck a (edW j) ≥ (-1 : Int)))
             ((true = false) ∧
             True)
             ((true = false) ∧
             True)))
           (br (decide (ck a (edW j) ≥ (-1 : Int)))
            ((true = false) ∧
            True)
            ((true = false) ∧
            True))))
         (br (decide (ck a (edW j) < (0 : Int)))
          (br (!decide (ck (edW j) (edW k) ≤ (0 : Int)))
           (br (decide (ck a (edW j) ≥ (-1 : Int)))
            ((true = false) ∧
            True)
            ((true = false) ∧
            True))
           (br (decide (ck a (edW j) ≥ (-1 : Int)))
            ((true = false) ∧
            True)
            ((true = false) ∧
            True)))
          (br (decide (ck a (edW j) ≥ (-1 : Int)))
           ((true = false) ∧
           True)
           ((true = false) ∧
           True))))))))))))))))))))))))
       ((((True ∧ (True ∧ True)) ∧ (True ∧ (True ∧ True)))) ∧
       ((((True ∧ (True ∧ True)) ∧ (True ∧ (True ∧ True)))) ∧
       ((((True ∧ (True ∧ True)) ∧ (True ∧ (True ∧ True)))) ∧
       ((Value.float FloatKind.f64 a = Value.float FloatKind.f64 a) ∧
       ((Value.float FloatKind.f64 (edW j) = Value.float FloatKind.f64 (edW j)) ∧
       ((Value.float FloatKind.f64 (edW j) = Value.float FloatKind.f64 (edW j)) ∧
       ((Value.float FloatKind.f64 (edW j) = Value.float FloatKind.f64 (edW j)) ∧
       ((Value.float FloatKind.f64 c = Value.float FloatKind.f64 c) ∧
       ((Value.float FloatKind.f64 c = Value.float FloatKind.f64 c) ∧
       ((Value.float FloatKind.f64 a = Value.float FloatKind.f64 a) ∧
       ((Value.float FloatKind.f64 a = Value.float FloatKind.f64 a) ∧
       ((Value.float FloatKind.f64 a = Value.float FloatKind.f64 a) ∧
       ((Value.float FloatKind.f64 c = Value.float FloatKind.f64 c) ∧
       ((Value.float FloatKind.f64 c = Value.float FloatKind.f64 c) ∧
       ((Value.float FloatKind.f64 c = Value.float FloatKind.f64 c) ∧
       ((((True ∧ (True ∧ True)) ∧ (True ∧ (True ∧ True)))) ∧
       (br (ck (edW j) a == IntKind.wrap IntKind.i64 ((0 : Int) - ck a (edW j)))
        ((((True ∧ (True ∧ True)) ∧ (True ∧ (True ∧ True)))) ∧
        ((Value.float FloatKind.f64 (edW j) = Value.float FloatKind.f64 (edW j)) ∧
        ((Value.float FloatKind.f64 a = Value.float FloatKind.f64 a) ∧
        ((Value.float FloatKind.f64 a = Value.float FloatKind.f64 a) ∧
        ((Value.float FloatKind.f64 a = Value.float FloatKind.f64 a) ∧
        (br (decide (ck a (edW j) ≤ (0 : Int)))
         (br (!decide (ck (edW j) c ≤ (0 : Int)))
          (br (decide (ck a (edW j) < (0 : Int)))
           (br (!decide (ck (edW j) c ≤ (0 : Int)))
            (br (decide (ck a (edW j) ≥ (-1 : Int)))
             (br (ck a a == (0 : Int))
              (br (decide (ck a (edW j) ≤ (1 : Int)))
               (((True ∧ (True ∧ (True ∧ True)))) ∧
               ((true = true) ∧
               True))
               ((true = false) ∧
               True))
              ((true = false) ∧
              True))
             (br (ck a a == (0 : Int))
              ((true = false) ∧
              True)
              ((true = false) ∧
              True)))
            (br (decide (ck a (edW j) ≥ (-1 : Int)))
             (br (ck a a == (0 : Int))
              (br (decide (ck a c < (0 : Int)))
               (br (decide (ck a (edW j) ≤ (1 : Int)))
                (((True ∧ (True ∧ (True ∧ True)))) ∧
                ((true = true) ∧
                True))
                ((true = false) ∧
                True))
               ((true = false) ∧
               True))
              ((true = false) ∧
              True))
             (br (ck a a == (0 : Int))
              (br (decide (ck a c < (0 : Int)))
               ((true = false) ∧
               True)
               ((true = false) ∧
               True))
              ((true = false) ∧
              True))))
           (br (decide (ck a (edW j) ≥ (-1 : Int)))
            (br (ck a a == (0 : Int))
             (br (decide (ck a (edW j) ≤ (1 : Int)))
              (((True ∧ (True ∧ (True ∧ True)))) ∧
              ((true = true) ∧
              True))
              ((true = false) ∧
              True))
             ((true = false) ∧
             True))
            (br (ck a a == (0 : Int))
             ((true = false) ∧
             True)
             ((true = false) ∧
             True))))
          (br (decide (ck a (edW j) < (0 : Int)))
           (br (!decide (ck (edW j) c ≤ (0 : Int)))
            (br (decide (ck a (edW j) ≥ (-1 : Int)))
             (br (ck a a == (0 : Int))
              (br (decide (ck a c ≤ (0 : Int)))
               (br (decide (ck a (edW j) ≤ (1 : Int)))
                (((True ∧ (True ∧ (True ∧ True)))) ∧
                ((true = true) ∧
                True))
                ((true = false) ∧
                True))
               ((true = false) ∧
               True))
              ((true = false) ∧
              True))
             (br (ck a a == (0 : Int))
              (br (decide (ck a c ≤ (0 : Int)))
               ((true = false) ∧
               True)
               ((true = false) ∧
               True))
              ((true = false) ∧
              True)))
            (br (decide (ck a (edW j) ≥ (-1 : Int)))
             (br (ck a a == (0 : Int))
              (br (decide (ck a c ≤ (0 : Int)))
               (br (decide (ck a c < (0 : Int)))
                (br (decide (ck a (edW j) ≤ (1 : Int)))
                 (((True ∧ (True ∧ (True ∧ True)))) ∧
                 ((true = true) ∧
                 True))
                 ((true = false) ∧
                 True))
                ((true = false) ∧
                True))
               ((true = false) ∧
               True))
              ((true = false) ∧
              True))
             (br (ck a a == (0 : Int))
              (br (decide (ck a c ≤ (0 : Int)))
               (br (decide (ck a c < (0 : Int)))
                ((true = false) ∧
                True)
                ((true = false) ∧
                True))
               ((true = false) ∧
               True))
              ((true = false) ∧
              True))))
           (br (decide (ck a (edW j) ≥ (-1 : Int)))
            (br (ck a a == (0 : Int))
             (br (decide (ck a c ≤ (0 : Int)))
              (br (decide (ck a (edW j) ≤ (1 : Int)))
               (((True ∧ (True ∧ (True ∧ True)))) ∧
               ((true = true) ∧
               True))
               ((true = false) ∧
               True))
              ((true = false) ∧
              True))
             ((true = false) ∧
             True))
            (br (ck a a == (0 : Int))
             (br (decide (ck a c ≤ (0 : Int)))
              ((true = false) ∧
              True)
              ((true = false) ∧
              True))
             ((true = false) ∧
             True)))))
         (br (decide (ck a (edW j) < (0 : Int)))
          (br (!decide (ck (edW j) c ≤ (0 : Int)))
           (br (decide (ck a (edW j) ≥ (-1 : Int)))
            (br (ck a a == (0 : Int))
             (br (decide (ck a (edW j) ≤ (1 : Int)))
              (((True ∧ (True ∧ (True ∧ True)))) ∧
              ((true = true) ∧
              True))
              ((true = false) ∧
              True))
             ((true = false) ∧
             True))
            (br (ck a a == (0 : Int))
             ((true = false) ∧
             True)
             ((true = false) ∧
             True)))
           (br (decide (ck a (edW j) ≥ (-1 : Int)))
            (br (ck a a == (0 : Int))
             (br (decide (ck a c < (0 : Int)))
              (br (decide (ck a (edW j) ≤ (1 : Int)))
               (((True ∧ (True ∧ (True ∧ True)))) ∧
               ((true = true) ∧
               True))
               ((true = false) ∧
               True))
              ((true = false) ∧
              True))
             ((true = false) ∧
             True))
            (br (ck a a == (0 : Int))
             (br (decide (ck a c < (0 : Int)))
              ((true = false) ∧
              True)
              ((true = false) ∧
              True))
             ((true = false) ∧
             True))))
          (br (decide (ck a (edW j) ≥ (-1 : Int)))
           (br (ck a a == (0 : Int))
            (br (decide (ck a (edW j) ≤ (1 : Int)))
             (((True ∧ (True ∧ (True ∧ True)))) ∧
             ((true = true) ∧
             True))
             ((true = false) ∧
             True))
            ((true = false) ∧
            True))
           (br (ck a a == (0 : Int))
            ((true = false) ∧
            True)
            ((true = false) ∧
            True))))))))))
        ((Value.float FloatKind.f64 (edW j) = Value.float FloatKind.f64 (edW j)) ∧
        ((Value.float FloatKind.f64 a = Value.float FloatKind.f64 a) ∧
        (br (decide (ck a (edW j) ≤ (0 : Int)))
         (br (!decide (ck (edW j) c ≤ (0 : Int)))
          (br (decide (ck a (edW j) < (0 : Int)))
           (br (!decide (ck (edW j) c ≤ (0 : Int)))
            (br (decide (ck a (edW j) ≥ (-1 : Int)))
             ((true = false) ∧
             True)
             ((true = false) ∧
             True))
            (br (decide (ck a (edW j) ≥ (-1 : Int)))
             ((true = false) ∧
             True)
             ((true = false) ∧
             True)))
           (br (decide (ck a (edW j) ≥ (-1 : Int)))
            ((true = false) ∧
            True)
            ((true = false) ∧
            True)))
          (br (decide (ck a (edW j) < (0 : Int)))
           (br (!decide (ck (edW j) c ≤ (0 : Int)))
            (br (decide (ck a (edW j) ≥ (-1 : Int)))
             ((true = false) ∧
             True)
             ((true = false) ∧
             True))
            (br (decide (ck a (edW j) ≥ (-1 : Int)))
             ((true = false) ∧
             True)
             ((true = false) ∧
             True)))
           (br (decide (ck a (edW j) ≥ (-1 : Int)))
            ((true = false) ∧
            True)
            ((true = false) ∧
            True))))
         (br (decide (ck a (edW j) < (0 : Int)))
          (br (!decide (ck (edW j) c ≤ (0 : Int)))
           (br (decide (ck a (edW j) ≥ (-1 : Int)))
            ((true = false) ∧
            True)
            ((true = false) ∧
            True))
           (br (decide (ck a (edW j) ≥ (-1 : Int)))
            ((true = false) ∧
            True)
            ((true = false) ∧
            True)))
          (br (decide (ck a (edW j) ≥ (-1 : Int)))
           ((true = false) ∧
           True)
           ((true = false) ∧
           True))))))))))))))))))))))))
      ((((True ∧ (True ∧ True)) ∧ (True ∧ (True ∧ True)))) ∧
      ((((True ∧ (True ∧ True)) ∧ (True ∧ (True ∧ True)))) ∧
      ((((True ∧ (True ∧ True)) ∧ (True ∧ (True ∧ True)))) ∧
      ((Value.float FloatKind.f64 a = Value.float FloatKind.f64 a) ∧
      ((Value.float FloatKind.f64 (edW j) = Value.float FloatKind.f64 (edW j)) ∧
      ((Value.float FloatKind.f64 (edW j) = Value.float FloatKind.f64 (edW j)) ∧
      ((Value.float FloatKind.f64 (edW j) = Value.float FloatKind.f64 (edW j)) ∧
      ((Value.float FloatKind.f64 c = Value.float FloatKind.f64 c) ∧
      ((Value.float FloatKind.f64 c = Value.float FloatKind.f64 c) ∧
      ((Value.float FloatKind.f64 a = Value.float FloatKind.f64 a) ∧
      ((Value.float FloatKind.f64 a = Value.float FloatKind.f64 a) ∧
      ((Value.float FloatKind.f64 a = Value.float FloatKind.f64 a) ∧
      ((Value.float FloatKind.f64 c = Value.float FloatKind.f64 c) ∧
      ((Value.float FloatKind.f64 c = Value.float FloatKind.f64 c) ∧
      ((Value.float FloatKind.f64 c = Value.float FloatKind.f64 c) ∧
      ((((True ∧ (True ∧ True)) ∧ (True ∧ (True ∧ True)))) ∧
      (br (ck (edW j) a == IntKind.wrap IntKind.i64 ((0 : Int) - ck a (edW j)))
       ((((True ∧ (True ∧ True)) ∧ (True ∧ (True ∧ True)))) ∧
       ((Value.float FloatKind.f64 (edW j) = Value.float FloatKind.f64 (edW j)) ∧
       ((Value.float FloatKind.f64 a = Value.float FloatKind.f64 a) ∧
       ((Value.float FloatKind.f64 a = Value.float FloatKind.f64 a) ∧
       ((Value.float FloatKind.f64 a = Value.float FloatKind.f64 a) ∧
       (br (decide (ck a (edW j) ≤ (0 : Int)))
        (br (!decide (ck (edW j) c ≤ (0 : Int)))
         (br (decide (ck a (edW j) < (0 : Int)))
          (br (!decide (ck (edW j) c ≤ (0 : Int)))
           (br (decide (ck a (edW j) ≥ (-1 : Int)))
            (br (ck a a == (0 : Int))
             (br (decide (ck a (edW j) ≤ (1 : Int)))
              (((True ∧ (True ∧ (True ∧ True)))) ∧
              ((true = true) ∧
              True))
              ((true = false) ∧
              True))
             ((true = false) ∧
             True))
            (br (ck a a == (0 : Int))
             ((true = false) ∧
             True)
             ((true = false) ∧
             True)))
           (br (decide (ck a (edW j) ≥ (-1 : Int)))
            (br (ck a a == (0 : Int))
             (br (decide (ck a c < (0 : Int)))
              (br (decide (ck a (edW j) ≤ (1 : Int)))
               (((True ∧ (True ∧ (True ∧ True)))) ∧
               ((true = true) ∧
               True))
               ((true = false) ∧
               True))
              ((true = false) ∧
              True))
             ((true = false) ∧
             True))
            (br (ck a a == (0 : Int))
             (br (decide (ck a c < (0 : Int)))
              ((true = false) ∧
              True)
              ((true = false) ∧
              True))
             ((true = false) ∧
             True))))
          (br (decide (ck a (edW j) ≥ (-1 : Int)))
           (br (ck a a == (0 : Int))
            (br (decide (ck a (edW j) ≤ (1 : Int)))
             (((True ∧ (True ∧ (True ∧ True)))) ∧
             ((true = true) ∧
             True))
             ((true = false) ∧
             True))
            ((true = false) ∧
            True))
           (br (ck a a == (0 : Int))
            ((true = false) ∧
            True)
            ((true = false) ∧
            True))))
         (br (decide (ck a (edW j) < (0 : Int)))
          (br (!decide (ck (edW j) c ≤ (0 : Int)))
           (br (decide (ck a (edW j) ≥ (-1 : Int)))
            (br (ck a a == (0 : Int))
             (br (decide (ck a c ≤ (0 : Int)))
              (br (decide (ck a (edW j) ≤ (1 : Int)))
               (((True ∧ (True ∧ (True ∧ True)))) ∧
               ((true = true) ∧
               True))
               ((true = false) ∧
               True))
              ((true = false) ∧
              True))
             ((true = false) ∧
             True))
            (br (ck a a == (0 : Int))
             (br (decide (ck a c ≤ (0 : Int)))
              ((true = false) ∧
              True)
              ((true = false) ∧
              True))
             ((true = false) ∧
             True)))
           (br (decide (ck a (edW j) ≥ (-1 : Int)))
            (br (ck a a == (0 : Int))
             (br (decide (ck a c ≤ (0 : Int)))
              (br (decide (ck a c < (0 : Int)))
               (br (decide (ck a (edW j) ≤ (1 : Int)))
                (((True ∧ (True ∧ (True ∧ True)))) ∧
                ((true = true) ∧
                True))
                ((true = false) ∧
                True))
               ((true = false) ∧
               True))
              ((true = false) ∧
              True))
             ((true = false) ∧
             True))
            (br (ck a a == (0 : Int))
             (br (decide (ck a c ≤ (0 : Int)))
              (br (decide (ck a c < (0 : Int)))
               ((true = false) ∧
               True)
               ((true = false) ∧
               True))
              ((true = false) ∧
              True))
             ((true = false) ∧
             True))))
          (br (decide (ck a (edW j) ≥ (-1 : Int)))
           (br (ck a a == (0 : Int))
            (br (decide (ck a c ≤ (0 : Int)))
             (br (decide (ck a (edW j) ≤ (1 : Int)))
              (((True ∧ (True ∧ (True ∧ True)))) ∧
              ((true = true) ∧
              True))
              ((true = false) ∧
              True))
             ((true = false) ∧
             True))
            ((true = false) ∧
            True))
           (br (ck a a == (0 : Int))
            (br (decide (ck a c ≤ (0 : Int)))
             ((true = false) ∧
             True)
             ((true = false) ∧
             True))
            ((true = false) ∧
            True)))))
        (br (decide (ck a (edW j) < (0 : Int)))
         (br (!decide (ck (edW j) c ≤ (0 : Int)))
          (br (decide (ck a (edW j) ≥ (-1 : Int)))
           (br (ck a a == (0 : Int))
            (br (decide (ck a (edW j) ≤ (1 : Int)))
             (((True ∧ (True ∧ (True ∧ True)))) ∧
             ((true = true) ∧
             True))
             ((true = false) ∧
             True))
            ((true = false) ∧
            True))
           (br (ck a a == (0 : Int))
            ((true = false) ∧
            True)
            ((true = false) ∧
            True)))
          (br (decide (ck a (edW j) ≥ (-1 : Int)))
           (br (ck a a == (0 : Int))
            (br (decide (ck a c < (0 : Int)))
             (br (decide (ck a (edW j) ≤ (1 : Int)))
              (((True ∧ (True ∧ (True ∧ True)))) ∧
              ((true = true) ∧
              True))
              ((true = false) ∧
              True))
             ((true = false) ∧
             True))
            ((true = false) ∧
            True))
           (br (ck a a == (0 : Int))
            (br (decide (ck a c < (0 : Int)))
             ((true = false) ∧
             True)
             ((true = false) ∧
             True))
            ((true = false) ∧
            True))))
         (br (decide (ck a (edW j) ≥ (-1 : Int)))
          (br (ck a a == (0 : Int))
           (br (decide (ck a (edW j) ≤ (1 : Int)))
            (((True ∧ (True ∧ (True ∧ True)))) ∧
            ((true = true) ∧
            True))
            ((true = false) ∧
            True))
           ((true = false) ∧
           True))
          (br (ck a a == (0 : Int))
           ((true = false) ∧
           True)
           ((true = false) ∧
           True))))))))))
       ((Value.float FloatKind.f64 (edW j) = Value.float FloatKind.f64 (edW j)) ∧
       ((Value.float FloatKind.f64 a = Value.float FloatKind.f64 a) ∧
       (br (decide (ck a (edW j) ≤ (0 : Int)))
        (br (!decide (ck (edW j) c ≤ (0 : Int)))
         (br (decide (ck a (edW j) < (0 : Int)))
          (br (!decide (ck (edW j) c ≤ (0 : Int)))
           (br (decide (ck a (edW j) ≥ (-1 : Int)))
            ((true = false) ∧
            True)
            ((true = false) ∧
            True))
           (br (decide (ck a (edW j) ≥ (-1 : Int)))
            ((true = false) ∧
            True)
            ((true = false) ∧
            True)))
          (br (decide (ck a (edW j) ≥ (-1 : Int)))
           ((true = false) ∧
           True)
           ((true = false) ∧
           True)))
         (br (decide (ck a (edW j) < (0 : Int)))
          (br (!decide (ck (edW j) c ≤ (0 : Int)))
           (br (decide (ck a (edW j) ≥ (-1 : Int)))
            ((true = false) ∧
            True)
            ((true = false) ∧
            True))
           (br (decide (ck a (edW j) ≥ (-1 : Int)))
            ((true = false) ∧
            True)
            ((true = false) ∧
            True)))
          (br (decide (ck a (edW j) ≥ (-1 : Int)))
           ((true = false) ∧
           True)
           ((true = false) ∧
           True))))
        (br (decide (ck a (edW j) < (0 : Int)))
         (br (!decide (ck (edW j) c ≤ (0 : Int)))
          (br (decide (ck a (edW j) ≥ (-1 : Int)))
           ((true = false) ∧
           True)
           ((true = false) ∧
           True))
          (br (decide (ck a (edW j) ≥ (-1 : Int)))
           ((true = false) ∧
           True)
           ((true = false) ∧
           True)))
         (br (decide (ck a (edW j) ≥ (-1 : Int)))
          ((true = false) ∧
          True)
          ((true = false) ∧
          True)))))))))))))))))))))))))
     (br (decide (k ≥ (0 : Int)))
      (br (decide (k ≤ (4 : Int)))
       ((((True ∧ True) ∧ (True ∧ (True ∧ ((0 : Int) ≤ k ∧ k ≤ (4 : Int)))))) ∧
       ((((True ∧ (True ∧ True)) ∧ (True ∧ (True ∧ True)))) ∧
       ((((True ∧ (True ∧ True)) ∧ (True ∧ (True ∧ True)))) ∧
       ((((True ∧ (True ∧ True)) ∧ (True ∧ (True ∧ True)))) ∧
       ((Value.float FloatKind.f64 a = Value.float FloatKind.f64 a) ∧
       ((Value.float FloatKind.f64 b = Value.float FloatKind.f64 b) ∧
       ((Value.float FloatKind.f64 b = Value.float FloatKind.f64 b) ∧
       ((Value.float FloatKind.f64 b = Value.float FloatKind.f64 b) ∧
       ((Value.float FloatKind.f64 (edW k) = Value.float FloatKind.f64 (edW k)) ∧
       ((Value.float FloatKind.f64 (edW k) = Value.float FloatKind.f64 (edW k)) ∧
       ((Value.float FloatKind.f64 a = Value.float FloatKind.f64 a) ∧
       ((Value.float FloatKind.f64 a = Value.float FloatKind.f64 a) ∧
       ((Value.float FloatKind.f64 a = Value.float FloatKind.f64 a) ∧
       ((Value.float FloatKind.f64 (edW k) = Value.float FloatKind.f64 (edW k)) ∧
       ((Value.float FloatKind.f64 (edW k) = Value.float FloatKind.f64 (edW k)) ∧
       ((Value.float FloatKind.f64 (edW k) = Value.float FloatKind.f64 (edW k)) ∧
       ((((True ∧ (True ∧ True)) ∧ (True ∧ (True ∧ True)))) ∧
       (br (ck b a == IntKind.wrap IntKind.i64 ((0 : Int) - ck a b))
        ((((True ∧ (True ∧ True)) ∧ (True ∧ (True ∧ True)))) ∧
        ((Value.float FloatKind.f64 b = Value.float FloatKind.f64 b) ∧
        ((Value.float FloatKind.f64 a = Value.float FloatKind.f64 a) ∧
        ((Value.float FloatKind.f64 a = Value.float FloatKind.f64 a) ∧
        ((Value.float FloatKind.f64 a = Value.float FloatKind.f64 a) ∧
        (br (decide (ck a b ≤ (0 : Int)))
         (br (!decide (ck b (edW k) ≤ (0 : Int)))
          (br (decide (ck a b < (0 : Int)))
           (br (!decide (ck b (edW k) ≤ (0 : Int)))
            (br (decide (ck a b ≥ (-1 : Int)))
             (br (ck a a == (0 : Int))
              (br (decide (ck a b ≤ (1 : Int)))
               (((True ∧ (True ∧ (True ∧ True)))) ∧
               ((true = true) ∧
               True))
               ((true = false) ∧
               True))
              ((true = false) ∧
              True))
             (br (ck a a == (0 : Int))
              ((true = false) ∧
              True)
              ((true = false) ∧
              True)))
            (br (decide (ck a b ≥ (-1 : Int)))
             (br (ck a a == (0 : Int))
              (br (decide (ck a (edW k) < (0 : Int)))
               (br (decide (ck a b ≤ (1 : Int)))
                (((True ∧ (True ∧ (True ∧ True)))) ∧
                ((true = true) ∧
                True))
                ((true = false) ∧
                True))
               ((true = false) ∧
               True))
              ((true = false) ∧
              True))
             (br (ck a a == (0 : Int))
              (br (decide (ck a (edW k) < (0 : Int)))
               ((true = false) ∧
               True)
               ((true = false) ∧
               True))
              ((true = false) ∧
              True))))
           (br (decide (ck a b ≥ (-1 : Int)))
            (br (ck a a == (0 : Int))
             (br (decide (ck a b ≤ (1 : Int)))
              (((True ∧ (True ∧ (True ∧ True)))) ∧
              ((true = true) ∧
              True))
              ((true = false) ∧
              True))
             ((true = false) ∧
             True))
            (br (ck a a == (0 : Int))
             ((true = false) ∧
             True)
             ((true = false) ∧
             True))))
          (br (decide (ck a b < (0 : Int)))
           (br (!decide (ck b (edW k) ≤ (0 : Int)))
            (br (decide (ck a b ≥ (-1 : Int)))
             (br (ck a a == (0 : Int))
              (br (decide (ck a (edW k) ≤ (0 : Int)))
               (br (decide (ck a b ≤ (1 : Int)))
                (((True ∧ (True ∧ (True ∧ True)))) ∧
                ((true = true) ∧
                True))
                ((true = false) ∧
                True))
               ((true = false) ∧
               True))
              ((true = false) ∧
              True))
             (br (ck a a == (0 : Int))
              (br (decide (ck a (edW k) ≤ (0 : Int)))
               ((true = false) ∧
               True)
               ((true = false) ∧
               True))
              ((true = false) ∧
              True)))
            (br (decide (ck a b ≥ (-1 : Int)))
             (br (ck a a == (0 : Int))
              (br (decide (ck a (edW k) ≤ (0 : Int)))
               (br (decide (ck a (edW k) < (0 : Int)))
                (br (decide (ck a b ≤ (1 : Int)))
                 (((True ∧ (True ∧ (True ∧ True)))) ∧
                 ((true = true) ∧
                 True))
                 ((true = false) ∧
                 True))
                ((true = false) ∧
                True))
               ((true = false) ∧
               True))
              ((true = false) ∧
              True))
             (br (ck a a == (0 : Int))
              (br (decide (ck a (edW k) ≤ (0 : Int)))
               (br (decide (ck a (edW k) < (0 : Int)))
                ((true = false) ∧
                True)
                ((true = false) ∧
                True))
               ((true = false) ∧
               True))
              ((true = false) ∧
              True))))
           (br (decide (ck a b ≥ (-1 : Int)))
            (br (ck a a == (0 : Int))
             (br (decide (ck a (edW k) ≤ (0 : Int)))
              (br (decide (ck a b ≤ (1 : Int)))
               (((True ∧ (True ∧ (True ∧ True)))) ∧
               ((true = true) ∧
               True))
               ((true = false) ∧
               True))
              ((true = false) ∧
              True))
             ((true = false) ∧
             True))
            (br (ck a a == (0 : Int))
             (br (decide (ck a (edW k) ≤ (0 : Int)))
              ((true = false) ∧
              True)
              ((true = false) ∧
              True))
             ((true = false) ∧
             True)))))
         (br (decide (ck a b < (0 : Int)))
          (br (!decide (ck b (edW k) ≤ (0 : Int)))
           (br (decide (ck a b ≥ (-1 : Int)))
            (br (ck a a == (0 : Int))
             (br (decide (ck a b ≤ (1 : Int)))
              (((True ∧ (True ∧ (True ∧ True)))) ∧
              ((true = true) ∧
              True))
              ((true = false) ∧
              True))
             ((true = false) ∧
             True))
            (br (ck a a == (0 : Int))
             ((true = false) ∧
             True)
             ((true = false) ∧
             True)))
           (br (decide (ck a b ≥ (-1 : Int)))
            (br (ck a a == (0 : Int))
             (br (decide (ck a (edW k) < (0 : Int)))
              (br (decide (ck a b ≤ (1 : Int)))
               (((True ∧ (True ∧ (True ∧ True)))) ∧
               ((true = true) ∧
               True))
               ((true = false) ∧
               True))
              ((true = false) ∧
              True))
             ((true = false) ∧
             True))
            (br (ck a a == (0 : Int))
             (br (decide (ck a (edW k) < (0 : Int)))
              ((true = false) ∧
              True)
              ((true = false) ∧
              True))
             ((true = false) ∧
             True))))
          (br (decide (ck a b ≥ (-1 : Int)))
           (br (ck a a == (0 : Int))
            (br (decide (ck a b ≤ (1 : Int)))
             (((True ∧ (True ∧ (True ∧ True)))) ∧
             ((true = true) ∧
             True))
             ((true = false) ∧
             True))
            ((true = false) ∧
            True))
           (br (ck a a == (0 : Int))
            ((true = false) ∧
            True)
            ((true = false) ∧
            True))))))))))
        ((Value.float FloatKind.f64 b = Value.float FloatKind.f64 b) ∧
        ((Value.float FloatKind.f64 a = Value.float FloatKind.f64 a) ∧
        (br (decide (ck a b ≤ (0 : Int)))
         (br (!decide (ck b (edW k) ≤ (0 : Int)))
          (br (decide (ck a b < (0 : Int)))
           (br (!decide (ck b (edW k) ≤ (0 : Int)))
            (br (decide (ck a b ≥ (-1 : Int)))
             ((true = false) ∧
             True)
             ((true = false) ∧
             True))
            (br (decide (ck a b ≥ (-1 : Int)))
             ((true = false) ∧
             True)
             ((true = false) ∧
             True)))
           (br (decide (ck a b ≥ (-1 : Int)))
            ((true = false) ∧
            True)
            ((true = false) ∧
            True)))
          (br (decide (ck a b < (0 : Int)))
           (br (!decide (ck b (edW k) ≤ (0 : Int)))
            (br (decide (ck a b ≥ (-1 : Int)))
             ((true = false) ∧
             True)
             ((true = false) ∧
             True))
            (br (decide (ck a b ≥ (-1 : Int)))
             ((true = false) ∧
             True)
             ((true = false) ∧
             True)))
           (br (decide (ck a b ≥ (-1 : Int)))
            ((true = false) ∧
            True)
            ((true = false) ∧
            True))))
         (br (decide (ck a b < (0 : Int)))
          (br (!decide (ck b (edW k) ≤ (0 : Int)))
           (br (decide (ck a b ≥ (-1 : Int)))
            ((true = false) ∧
            True)
            ((true = false) ∧
            True))
           (br (decide (ck a b ≥ (-1 : Int)))
            ((true = false) ∧
            True)
            ((true = false) ∧
            True)))
          (br (decide (ck a b ≥ (-1 : Int)))
           ((true = false) ∧
           True)
           ((true = false) ∧
           True))))))))))))))))))))))))
       ((((True ∧ (True ∧ True)) ∧ (True ∧ (True ∧ True)))) ∧
       ((((True ∧ (True ∧ True)) ∧ (True ∧ (True ∧ True)))) ∧
       ((((True ∧ (True ∧ True)) ∧ (True ∧ (True ∧ True)))) ∧
       ((Value.float FloatKind.f64 a = Value.float FloatKind.f64 a) ∧
       ((Value.float FloatKind.f64 b = Value.float FloatKind.f64 b) ∧
       ((Value.float FloatKind.f64 b = Value.float FloatKind.f64 b) ∧
       ((Value.float FloatKind.f64 b = Value.float FloatKind.f64 b) ∧
       ((Value.float FloatKind.f64 c = Value.float FloatKind.f64 c) ∧
       ((Value.float FloatKind.f64 c = Value.float FloatKind.f64 c) ∧
       ((Value.float FloatKind.f64 a = Value.float FloatKind.f64 a) ∧
       ((Value.float FloatKind.f64 a = Value.float FloatKind.f64 a) ∧
       ((Value.float FloatKind.f64 a = Value.float FloatKind.f64 a) ∧
       ((Value.float FloatKind.f64 c = Value.float FloatKind.f64 c) ∧
       ((Value.float FloatKind.f64 c = Value.float FloatKind.f64 c) ∧
       ((Value.float FloatKind.f64 c = Value.float FloatKind.f64 c) ∧
       ((((True ∧ (True ∧ True)) ∧ (True ∧ (True ∧ True)))) ∧
       (br (ck b a == IntKind.wrap IntKind.i64 ((0 : Int) - ck a b))
        ((((True ∧ (True ∧ True)) ∧ (True ∧ (True ∧ True)))) ∧
        ((Value.float FloatKind.f64 b = Value.float FloatKind.f64 b) ∧
        ((Value.float FloatKind.f64 a = Value.float FloatKind.f64 a) ∧
        ((Value.float FloatKind.f64 a = Value.float FloatKind.f64 a) ∧
        ((Value.float FloatKind.f64 a = Value.float FloatKind.f64 a) ∧
        (br (decide (ck a b ≤ (0 : Int)))
         (br (!decide (ck b c ≤ (0 : Int)))
          (br (decide (ck a b < (0 : Int)))
           (br (!decide (ck b c ≤ (0 : Int)))
            (br (decide (ck a b ≥ (-1 : Int)))
             (br (ck a a == (0 : Int))
              (br (decide (ck a b ≤ (1 : Int)))
               (((True ∧ (True ∧ (True ∧ True)))) ∧
               ((true = true) ∧
               True))
               ((true = false) ∧
               True))
              ((true = false) ∧
              True))
             (br (ck a a == (0 : Int))
              ((true = false) ∧
              True)
              ((true = false) ∧
              True)))
            (br (decide (ck a b ≥ (-1 : Int)))
             (br (ck a a == (0 : Int))
              (br (decide (ck a c < (0 : Int)))
               (br (decide (ck a b ≤ (1 : Int)))
                (((True ∧ (True ∧ (True ∧ True)))) ∧
                ((true = true) ∧
                True))
                ((true = false) ∧
                True))
               ((true = false) ∧
               True))
              ((true = false) ∧
              True))
             (br (ck a a == (0 : Int))
              (br (decide (ck a c < (0 : Int)))
               ((true = false) ∧
               True)
               ((true = false) ∧
               True))
              ((true = false) ∧
              True))))
           (br (decide (ck a b ≥ (-1 : Int)))
            (br (ck a a == (0 : Int))
             (br (decide (ck a b ≤ (1 : Int)))
              (((True ∧ (True ∧ (True ∧ True)))) ∧
              ((true = true) ∧
              True))
              ((true = false) ∧
              True))
             ((true = false) ∧
             True))
            (br (ck a a == (0 : Int))
             ((true = false) ∧
             True)
             ((true = false) ∧
             True))))
          (br (decide (ck a b < (0 : Int)))
           (br (!decide (ck b c ≤ (0 : Int)))
            (br (decide (ck a b ≥ (-1 : Int)))
             (br (ck a a == (0 : Int))
              (br (decide (ck a c ≤ (0 : Int)))
               (br (decide (ck a b ≤ (1 : Int)))
                (((True ∧ (True ∧ (True ∧ True)))) ∧
                ((true = true) ∧
                True))
                ((true = false) ∧
                True))
               ((true = false) ∧
               True))
              ((true = false) ∧
              True))
             (br (ck a a == (0 : Int))
              (br (decide (ck a c ≤ (0 : Int)))
               ((true = false) ∧
               True)
               ((true = false) ∧
               True))
              ((true = false) ∧
              True)))
            (br (decide (ck a b ≥ (-1 : Int)))
             (br (ck a a == (0 : Int))
              (br (decide (ck a c ≤ (0 : Int)))
               (br (decide (ck a c < (0 : Int)))
                (br (decide (ck a b ≤ (1 : Int)))
                 (((True ∧ (True ∧ (True ∧ True)))) ∧
                 ((true = true) ∧
                 True))
                 ((true = false) ∧
                 True))
                ((true = false) ∧
                True))
               ((true = false) ∧
               True))
              ((true = false) ∧
              True))
             (br (ck a a == (0 : Int))
              (br (decide (ck a c ≤ (0 : Int)))
               (br (decide (ck a c < (0 : Int)))
                ((true = false) ∧
                True)
                ((true = false) ∧
                True))
               ((true = false) ∧
               True))
              ((true = false) ∧
              True))))
           (br (decide (ck a b ≥ (-1 : Int)))
            (br (ck a a == (0 : Int))
             (br (decide (ck a c ≤ (0 : Int)))
              (br (decide (ck a b ≤ (1 : Int)))
               (((True ∧ (True ∧ (True ∧ True)))) ∧
               ((true = true) ∧
               True))
               ((true = false) ∧
               True))
              ((true = false) ∧
              True))
             ((true = false) ∧
             True))
            (br (ck a a == (0 : Int))
             (br (decide (ck a c ≤ (0 : Int)))
              ((true = false) ∧
              True)
              ((true = false) ∧
              True))
             ((true = false) ∧
             True)))))
         (br (decide (ck a b < (0 : Int)))
          (br (!decide (ck b c ≤ (0 : Int)))
           (br (decide (ck a b ≥ (-1 : Int)))
            (br (ck a a == (0 : Int))
             (br (decide (ck a b ≤ (1 : Int)))
              (((True ∧ (True ∧ (True ∧ True)))) ∧
              ((true = true) ∧
              True))
              ((true = false) ∧
              True))
             ((true = false) ∧
             True))
            (br (ck a a == (0 : Int))
             ((true = false) ∧
             True)
             ((true = false) ∧
             True)))
           (br (decide (ck a b ≥ (-1 : Int)))
            (br (ck a a == (0 : Int))
             (br (decide (ck a c < (0 : Int)))
              (br (decide (ck a b ≤ (1 : Int)))
               (((True ∧ (True ∧ (True ∧ True)))) ∧
               ((true = true) ∧
               True))
               ((true = false) ∧
               True))
              ((true = false) ∧
              True))
             ((true = false) ∧
             True))
            (br (ck a a == (0 : Int))
             (br (decide (ck a c < (0 : Int)))
              ((true = false) ∧
              True)
              ((true = false) ∧
              True))
             ((true = false) ∧
             True))))
          (br (decide (ck a b ≥ (-1 : Int)))
           (br (ck a a == (0 : Int))
            (br (decide (ck a b ≤ (1 : Int)))
             (((True ∧ (True ∧ (True ∧ True)))) ∧
             ((true = true) ∧
             True))
             ((true = false) ∧
             True))
            ((true = false) ∧
            True))
           (br (ck a a == (0 : Int))
            ((true = false) ∧
            True)
            ((true = false) ∧
            True))))))))))
        ((Value.float FloatKind.f64 b = Value.float FloatKind.f64 b) ∧
        ((Value.float FloatKind.f64 a = Value.float FloatKind.f64 a) ∧
        (br (decide (ck a b ≤ (0 : Int)))
         (br (!decide (ck b c ≤ (0 : Int)))
          (br (decide (ck a b < (0 : Int)))
           (br (!decide (ck b c ≤ (0 : Int)))
            (br (decide (ck a b ≥ (-1 : Int)))
             ((true = false) ∧
             True)
             ((true = false) ∧
             True))
            (br (decide (ck a b ≥ (-1 : Int)))
             ((true = false) ∧
             True)
             ((true = false) ∧
             True)))
           (br (decide (ck a b ≥ (-1 : Int)))
            ((true = false) ∧
            True)
            ((true = false) ∧
            True)))
          (br (decide (ck a b < (0 : Int)))
           (br (!decide (ck b c ≤ (0 : Int)))
            (br (decide (ck a b ≥ (-1 : Int)))
             ((true = false) ∧
             True)
             ((true = false) ∧
             True))
            (br (decide (ck a b ≥ (-1 : Int)))
             ((true = false) ∧
             True)
             ((true = false) ∧
             True)))
           (br (decide (ck a b ≥ (-1 : Int)))
            ((true = false) ∧
            True)
            ((true = false) ∧
            True))))
         (br (decide (ck a b < (0 : Int)))
          (br (!decide (ck b c ≤ (0 : Int)))
           (br (decide (ck a b ≥ (-1 : Int)))
            ((true = false) ∧
            True)
            ((true = false) ∧
            True))
           (br (decide (ck a b ≥ (-1 : Int)))
            ((true = false) ∧
            True)
            ((true = false) ∧
            True)))
          (br (decide (ck a b ≥ (-1 : Int)))
           ((true = false) ∧
           True)
           ((true = false) ∧
           True))))))))))))))))))))))))
      ((((True ∧ (True ∧ True)) ∧ (True ∧ (True ∧ True)))) ∧
      ((((True ∧ (True ∧ True)) ∧ (True ∧ (True ∧ True)))) ∧
      ((((True ∧ (True ∧ True)) ∧ (True ∧ (True ∧ True)))) ∧
      ((Value.float FloatKind.f64 a = Value.float FloatKind.f64 a) ∧
      ((Value.float FloatKind.f64 b = Value.float FloatKind.f64 b) ∧
      ((Value.float FloatKind.f64 b = Value.float FloatKind.f64 b) ∧
      ((Value.float FloatKind.f64 b = Value.float FloatKind.f64 b) ∧
      ((Value.float FloatKind.f64 c = Value.float FloatKind.f64 c) ∧
      ((Value.float FloatKind.f64 c = Value.float FloatKind.f64 c) ∧
      ((Value.float FloatKind.f64 a = Value.float FloatKind.f64 a) ∧
      ((Value.float FloatKind.f64 a = Value.float FloatKind.f64 a) ∧
      ((Value.float FloatKind.f64 a = Value.float FloatKind.f64 a) ∧
      ((Value.float FloatKind.f64 c = Value.float FloatKind.f64 c) ∧
      ((Value.float FloatKind.f64 c = Value.float FloatKind.f64 c) ∧
      ((Value.float FloatKind.f64 c = Value.float FloatKind.f64 c) ∧
      ((((True ∧ (True ∧ True)) ∧ (True ∧ (True ∧ True)))) ∧
      (br (ck b a == IntKind.wrap IntKind.i64 ((0 : Int) - ck a b))
       ((((True ∧ (True ∧ True)) ∧ (True ∧ (True ∧ True)))) ∧
       ((Value.float FloatKind.f64 b = Value.float FloatKind.f64 b) ∧
       ((Value.float FloatKind.f64 a = Value.float FloatKind.f64 a) ∧
       ((Value.float FloatKind.f64 a = Value.float FloatKind.f64 a) ∧
       ((Value.float FloatKind.f64 a = Value.float FloatKind.f64 a) ∧
       (br (decide (ck a b ≤ (0 : Int)))
        (br (!decide (ck b c ≤ (0 : Int)))
         (br (decide (ck a b < (0 : Int)))
          (br (!decide (ck b c ≤ (0 : Int)))
           (br (decide (ck a b ≥ (-1 : Int)))
            (br (ck a a == (0 : Int))
             (br (decide (ck a b ≤ (1 : Int)))
              (((True ∧ (True ∧ (True ∧ True)))) ∧
              ((true = true) ∧
              True))
              ((true = false) ∧
              True))
             ((true = false) ∧
             True))
            (br (ck a a == (0 : Int))
             ((true = false) ∧
             True)
             ((true = false) ∧
             True)))
           (br (decide (ck a b ≥ (-1 : Int)))
            (br (ck a a == (0 : Int))
             (br (decide (ck a c < (0 : Int)))
              (br (decide (ck a b ≤ (1 : Int)))
               (((True ∧ (True ∧ (True ∧ True)))) ∧
               ((true = true) ∧
               True))
               ((true = false) ∧
               True))
              ((true = false) ∧
              True))
             ((true = false) ∧
             True))
            (br (ck a a == (0 : Int))
             (br (decide (ck a c < (0 : Int)))
              ((true = false) ∧
              True)
              ((true = false) ∧
              True))
             ((true = false) ∧
             True))))
          (br (decide (ck a b ≥ (-1 : Int)))
           (br (ck a a == (0 : Int))
            (br (decide (ck a b ≤ (1 : Int)))
             (((True ∧ (True ∧ (True ∧ True)))) ∧
             ((true = true) ∧
             True))
             ((true = false) ∧
             True))
            ((true = false) ∧
            True))
           (br (ck a a == (0 : Int))
            ((true = false) ∧
            True)
            ((true = false) ∧
            True))))
         (br (decide (ck a b < (0 : Int)))
          (br (!decide (ck b c ≤ (0 : Int)))
           (br (decide (ck a b ≥ (-1 : Int)))
            (br (ck a a == (0 : Int))
             (br (decide (ck a c ≤ (0 : Int)))
              (br (decide (ck a b ≤ (1 : Int)))
               (((True ∧ (True ∧ (True ∧ True)))) ∧
               ((true = true) ∧
               True))
               ((true = false) ∧
               True))
              ((true = false) ∧
              True))
             ((true = false) ∧
             True))
            (br (ck a a == (0 : Int))
             (br (decide (ck a c ≤ (0 : Int)))
              ((true = false) ∧
              True)
              ((true = false) ∧
              True))
             ((true = false) ∧
             True)))
           (br (decide (ck a b ≥ (-1 : Int)))
            (br (ck a a == (0 : Int))
             (br (decide (ck a c ≤ (0 : Int)))
              (br (decide (ck a c < (0 : Int)))
               (br (decide (ck a b ≤ (1 : Int)))
                (((True ∧ (True ∧ (True ∧ True)))) ∧
                ((true = true) ∧
                True))
                ((true = false) ∧
                True))
               ((true = false) ∧
               True))
              ((true = false) ∧
              True))
             ((true = false) ∧
             True))
            (br (ck a a == (0 : Int))
             (br (decide (ck a c ≤ (0 : Int)))
              (br (decide (ck a c < (0 : Int)))
               ((true = false) ∧
               True)
               ((true = false) ∧
               True))
              ((true = false) ∧
              True))
             ((true = false) ∧
             True))))
          (br (decide (ck a b ≥ (-1 : Int)))
           (br (ck a a == (0 : Int))
            (br (decide (ck a c ≤ (0 : Int)))
             (br (decide (ck a b ≤ (1 : Int)))
              (((True ∧ (True ∧ (True ∧ True)))) ∧
              ((true = true) ∧
              True))
              ((true = false) ∧
              True))
             ((true = false) ∧
             True))
            ((true = false) ∧
            True))
           (br (ck a a == (0 : Int))
            (br (decide (ck a c ≤ (0 : Int)))
             ((true = false) ∧
             True)
             ((true = false) ∧
             True))
            ((true = false) ∧
            True)))))
        (br (decide (ck a b < (0 : Int)))
         (br (!decide (ck b c ≤ (0 : Int)))
          (br (decide (ck a b ≥ (-1 : Int)))
           (br (ck a a == (0 : Int))
            (br (decide (ck a b ≤ (1 : Int)))
             (((True ∧ (True ∧ (True ∧ True)))) ∧
             ((true = true) ∧
             True))
             ((true = false) ∧
             True))
            ((true = false) ∧
            True))
           (br (ck a a == (0 : Int))
            ((true = false) ∧
            True)
            ((true = false) ∧
            True)))
          (br (decide (ck a b ≥ (-1 : Int)))
           (br (ck a a == (0 : Int))
            (br (decide (ck a c < (0 : Int)))
             (br (decide (ck a b ≤ (1 : Int)))
              (((True ∧ (True ∧ (True ∧ True)))) ∧
              ((true = true) ∧
              True))
              ((true = false) ∧
              True))
             ((true = false) ∧
             True))
            ((true = false) ∧
            True))
           (br (ck a a == (0 : Int))
            (br (decide (ck a c < (0 : Int)))
             ((true = false) ∧
             True)
             ((true = false) ∧
             True))
            ((true = false) ∧
            True))))
         (br (decide (ck a b ≥ (-1 : Int)))
          (br (ck a a == (0 : Int))
           (br (decide (ck a b ≤ (1 : Int)))
            (((True ∧ (True ∧ (True ∧ True)))) ∧
            ((true = true) ∧
            True))
            ((true = false) ∧
            True))
           ((true = false) ∧
           True))
          (br (ck a a == (0 : Int))
           ((true = false) ∧
           True)
           ((true = false) ∧
           True))))))))))
       ((Value.float FloatKind.f64 b = Value.float FloatKind.f64 b) ∧
       ((Value.float FloatKind.f64 a = Value.float FloatKind.f64 a) ∧
       (br (decide (ck a b ≤ (0 : Int)))
        (br (!decide (ck b c ≤ (0 : Int)))
         (br (decide (ck a b < (0 : Int)))
          (br (!decide (ck b c ≤ (0 : Int)))
           (br (decide (ck a b ≥ (-1 : Int)))
            ((true = false) ∧
            True)
            ((true = false) ∧
            True))
           (br (decide (ck a b ≥ (-1 : Int)))
            ((true = false) ∧
            True)
            ((true = false) ∧
            True)))
          (br (decide (ck a b ≥ (-1 : Int)))
           ((true = false) ∧
           True)
           ((true = false) ∧
           True)))
         (br (decide (ck a b < (0 : Int)))
          (br (!decide (ck b c ≤ (0 : Int)))
           (br (decide (ck a b ≥ (-1 : Int)))
            ((true = false) ∧
            True)
            ((true = false) ∧
            True))
           (br (decide (ck a b ≥ (-1 : Int)))
            ((true = false) ∧
            True)
            ((true = false) ∧
            True)))
          (br (decide (ck a b ≥ (-1 : Int)))
           ((true = false) ∧
           True)
           ((true = false) ∧
           True))))
        (br (decide (ck a b < (0 : Int)))
         (br (!decide (ck b c ≤ (0 : Int)))
          (br (decide (ck a b ≥ (-1 : Int)))
           ((true = false) ∧
           True)
           ((true = false) ∧
           True))
          (br (decide (ck a b ≥ (-1 : Int)))
           ((true = false) ∧
           True)
           ((true = false) ∧
           True)))
         (br (decide (ck a b ≥ (-1 : Int)))
          ((true = false) ∧
          True)
          ((true = false) ∧
          True)))))))))))))))))))))))))
    (br (decide (k ≥ (0 : Int)))
     (br (decide (k ≤ (4 : Int)))
      ((((True ∧ True) ∧ (True ∧ (True ∧ ((0 : Int) ≤ k ∧ k ≤ (4 : Int)))))) ∧
      ((((True ∧ (True ∧ True)) ∧ (True ∧ (True ∧ True)))) ∧
      ((((True ∧ (True ∧ True)) ∧ (True ∧ (True ∧ True)))) ∧
      ((((True ∧ (True ∧ True)) ∧ (True ∧ (True ∧ True)))) ∧
      ((Value.float FloatKind.f64 a = Value.float FloatKind.f64 a) ∧
      ((Value.float FloatKind.f64 b = Value.float FloatKind.f64 b) ∧
      ((Value.float FloatKind.f64 b = Value.float FloatKind.f64 b) ∧
      ((Value.float FloatKind.f64 b = Value.float FloatKind.f64 b) ∧
      ((Value.float FloatKind.f64 (edW k) = Value.float FloatKind.f64 (edW k)) ∧
      ((Value.float FloatKind.f64 (edW k) = Value.float FloatKind.f64 (edW k)) ∧
      ((Value.float FloatKind.f64 a = Value.float FloatKind.f64 a) ∧
      ((Value.float FloatKind.f64 a = Value.float FloatKind.f64 a) ∧
      ((Value.float FloatKind.f64 a = Value.float FloatKind.f64 a) ∧
      ((Value.float FloatKind.f64 (edW k) = Value.float FloatKind.f64 (edW k)) ∧
      ((Value.float FloatKind.f64 (edW k) = Value.float FloatKind.f64 (edW k)) ∧
      ((Value.float FloatKind.f64 (edW k) = Value.float FloatKind.f64 (edW k)) ∧
      ((((True ∧ (True ∧ True)) ∧ (True ∧ (True ∧ True)))) ∧
      (br (ck b a == IntKind.wrap IntKind.i64 ((0 : Int) - ck a b))
       ((((True ∧ (True ∧ True)) ∧ (True ∧ (True ∧ True)))) ∧
       ((Value.float FloatKind.f64 b = Value.float FloatKind.f64 b) ∧
       ((Value.float FloatKind.f64 a = Value.float FloatKind.f64 a) ∧
       ((Value.float FloatKind.f64 a = Value.float FloatKind.f64 a) ∧
       ((Value.float FloatKind.f64 a = Value.float FloatKind.f64 a) ∧
       (br (decide (ck a b ≤ (0 : Int)))
        (br (!decide (ck b (edW k) ≤ (0 : Int)))
         (br (decide (ck a b < (0 : Int)))
          (br (!decide (ck b (edW k) ≤ (0 : Int)))
           (br (decide (ck a b ≥ (-1 : Int)))
            (br (ck a a == (0 : Int))
             (br (decide (ck a b ≤ (1 : Int)))
              (((True ∧ (True ∧ (True ∧ True)))) ∧
              ((true = true) ∧
              True))
              ((true = false) ∧
              True))
             ((true = false) ∧
             True))
            (br (ck a a == (0 : Int))
             ((true = false) ∧
             True)
             ((true = false) ∧
             True)))
           (br (decide (ck a b ≥ (-1 : Int)))
            (br (ck a a == (0 : Int))
             (br (decide (ck a (edW k) < (0 : Int)))
              (br (decide (ck a b ≤ (1 : Int)))
               (((True ∧ (True ∧ (True ∧ True)))) ∧
               ((true = true) ∧
               True))
               ((true = false) ∧
               True))
              ((true = false) ∧
              True))
             ((true = false) ∧
             True))
            (br (ck a a == (0 : Int))
             (br (decide (ck a (edW k) < (0 : Int)))
              ((true = false) ∧
              True)
              ((true = false) ∧
              True))
             ((true = false) ∧
             True))))
          (br (decide (ck a b ≥ (-1 : Int)))
           (br (ck a a == (0 : Int))
            (br (decide (ck a b ≤ (1 : Int)))
             (((True ∧ (True ∧ (True ∧ True)))) ∧
             ((true = true) ∧
             True))
             ((true = false) ∧
             True))
            ((true = false) ∧
            True))
           (br (ck a a == (0 : Int))
            ((true = false) ∧
            True)
            ((true = false) ∧
            True))))
         (br (decide (ck a b < (0 : Int)))
          (br (!decide (ck b (edW k) ≤ (0 : Int)))
           (br (decide (ck a b ≥ (-1 : Int)))
            (br (ck a a == (0 : Int))
             (br (decide (ck a (edW k) ≤ (0 : Int)))
              (br (decide (ck a b ≤ (1 : Int)))
               (((True ∧ (True ∧ (True ∧ True)))) ∧
               ((true = true) ∧
               True))
               ((true = false) ∧
               True))
              ((true = false) ∧
              True))
             ((true = false) ∧
             True))
            (br (ck a a == (0 : Int))
             (br (decide (ck a (edW k) ≤ (0 : Int)))
              ((true = false) ∧
              True)
              ((true = false) ∧
              True))
             ((true = false) ∧
             True)))
           (br (decide (ck a b ≥ (-1 : Int)))
            (br (ck a a == (0 : Int))
             (br (decide (ck a (edW k) ≤ (0 : Int)))
              (br (decide (ck a (edW k) < (0 : Int)))
               (br (decide (ck a b ≤ (1 : Int)))
                (((True ∧ (True ∧ (True ∧ True)))) ∧
                ((true = true) ∧
                True))
                ((true = false) ∧
                True))
               ((true = false) ∧
               True))
              ((true = false) ∧
              True))
             ((true = false) ∧
             True))
            (br (ck a a == (0 : Int))
             (br (decide (ck a (edW k) ≤ (0 : Int)))
              (br (decide (ck a (edW k) < (0 : Int)))
               ((true = false) ∧
               True)
               ((true = false) ∧
               True))
              ((true = false) ∧
              True))
             ((true = false) ∧
             True))))
          (br (decide (ck a b ≥ (-1 : Int)))
           (br (ck a a == (0 : Int))
            (br (decide (ck a (edW k) ≤ (0 : Int)))
             (br (decide (ck a b ≤ (1 : Int)))
              (((True ∧ (True ∧ (True ∧ True)))) ∧
              ((true = true) ∧
              True))
              ((true = false) ∧
              True))
             ((true = false) ∧
             True))
            ((true = false) ∧
            True))
           (br (ck a a == (0 : Int))
            (br (decide (ck a (edW k) ≤ (0 : Int)))
             ((true = false) ∧
             True)
             ((true = false) ∧
             True))
            ((true = false) ∧
            True)))))
        (br (decide (ck a b < (0 : Int)))
         (br (!decide (ck b (edW k) ≤ (0 : Int)))
          (br (decide (ck a b ≥ (-1 : Int)))
           (br (ck a a == (0 : Int))
            (br (decide (ck a b ≤ (1 : Int)))
             (((True ∧ (True ∧ (True ∧ True)))) ∧
             ((true = true) ∧
             True))
             ((true = false) ∧
             True))
            ((true = false) ∧
            True))
           (br (ck a a == (0 : Int))
            ((true = false) ∧
            True)
            ((true = false) ∧
            True)))
          (br (decide (ck a b ≥ (-1 : Int)))
           (br (ck a a == (0 : Int))
            (br (decide (ck a (edW k) < (0 : Int)))
             (br (decide (ck a b ≤ (1 : Int)))
              (((True ∧ (True ∧ (True ∧ True)))) ∧
              ((true = true) ∧
              True))
              ((true = false) ∧
              True))
             ((true = false) ∧
             True))
            ((true = false) ∧
            True))
           (br (ck a a == (0 : Int))
            (br (decide (ck a (edW k) < (0 : Int)))
             ((true = false) ∧
             True)
             ((true = false) ∧
             True))
            ((true = false) ∧
            True))))
         (br (decide (ck a b ≥ (-1 : Int)))
          (br (ck a a == (0 : Int))
           (br (decide (ck a b ≤ (1 : Int)))
            (((True ∧ (True ∧ (True ∧ True)))) ∧
            ((true = true) ∧
            True))
            ((true = false) ∧
            True))
           ((true = false) ∧
           True))
          (br (ck a a == (0 : Int))
           ((true = false) ∧
           True)
           ((true = false) ∧
           True))))))))))
       ((Value.float FloatKind.f64 b = Value.float FloatKind.f64 b) ∧
       ((Value.float FloatKind.f64 a = Value.float FloatKind.f64 a) ∧
       (br (decide (ck a b ≤ (0 : Int)))
        (br (!decide (ck b (edW k) ≤ (0 : Int)))
         (br (decide (ck a b < (0 : Int)))
          (br (!decide (ck b (edW k) ≤ (0 : Int)))
           (br (decide (ck a b ≥ (-1 : Int)))
            ((true = false) ∧
            True)
            ((true = false) ∧
            True))
           (br (decide (ck a b ≥ (-1 : Int)))
            ((true = false) ∧
            True)
            ((true = false) ∧
            True)))
          (br (decide (ck a b ≥ (-1 : Int)))
           ((true = false) ∧
           True)
           ((true = false) ∧
           True)))
         (br (decide (ck a b < (0 : Int)))
          (br (!decide (ck b (edW k) ≤ (0 : Int)))
           (br (decide (ck a b ≥ (-1 : Int)))
            ((true = false) ∧
            True)
            ((true = false) ∧
            True))
           (br (decide (ck a b ≥ (-1 : Int)))
            ((true = false) ∧
            True)
            ((true = false) ∧
            True)))
          (br (decide (ck a b ≥ (-1 : Int)))
           ((true = false) ∧
           True)
           ((true = false) ∧
           True))))
        (br (decide (ck a b < (0 : Int)))
         (br (!decide (ck b (edW k) ≤ (0 : Int)))
          (br (decide (ck a b ≥ (-1 : Int)))
           ((true = false) ∧
           True)
           ((true = false) ∧
           True))
          (br (decide (ck a b ≥ (-1 : Int)))
           ((true = false) ∧
           True)
           ((true = false) ∧
           True)))
         (br (decide (ck a b ≥ (-1 : Int)))
          ((true = false) ∧
          True)
          ((true = false) ∧
          True))))))))))))))))))))))))
      ((((True ∧ (True ∧ True)) ∧ (True ∧ (True ∧ True)))) ∧
      ((((True ∧ (True ∧ True)) ∧ (True ∧ (True ∧ True)))) ∧
      ((((True ∧ (True ∧ True)) ∧ (True ∧ (True ∧ True)))) ∧
      ((Value.float FloatKind.f64 a = Value.float FloatKind.f64 a) ∧
      ((Value.float FloatKind.f64 b = Value.float FloatKind.f64 b) ∧
      ((Value.float FloatKind.f64 b = Value.float FloatKind.f64 b) ∧
      ((Value.float FloatKind.f64 b = Value.float FloatKind.f64 b) ∧
      ((Value.float FloatKind.f64 c = Value.float FloatKind.f64 c) ∧
      ((Value.float FloatKind.f64 c = Value.float FloatKind.f64 c) ∧
      ((Value.float FloatKind.f64 a = Value.float FloatKind.f64 a) ∧
      ((Value.float FloatKind.f64 a = Value.float FloatKind.f64 a) ∧
      ((Value.float FloatKind.f64 a = Value.float FloatKind.f64 a) ∧
      ((Value.float FloatKind.f64 c = Value.float FloatKind.f64 c) ∧
      ((Value.float FloatKind.f64 c = Value.float FloatKind.f64 c) ∧
      ((Value.float FloatKind.f64 c = Value.float FloatKind.f64 c) ∧
      ((((True ∧ (True ∧ True)) ∧ (True ∧ (True ∧ True)))) ∧
      (br (ck b a == IntKind.wrap IntKind.i64 ((0 : Int) - ck a b))
       ((((True ∧ (True ∧ True)) ∧ (True ∧ (True ∧ True)))) ∧
       ((Value.float FloatKind.f64 b = Value.float FloatKind.f64 b) ∧
       ((Value.float FloatKind.f64 a = Value.float FloatKind.f64 a) ∧
       ((Value.float FloatKind.f64 a = Value.float FloatKind.f64 a) ∧
       ((Value.float FloatKind.f64 a = Value.float FloatKind.f64 a) ∧
       (br (decide (ck a b ≤ (0 : Int)))
        (br (!decide (ck b c ≤ (0 : Int)))
         (br (decide (ck a b < (0 : Int)))
          (br (!decide (ck b c ≤ (0 : Int)))
           (br (decide (ck a b ≥ (-1 : Int)))
            (br (ck a a == (0 : Int))
             (br (decide (ck a b ≤ (1 : Int)))
              (((True ∧ (True ∧ (True ∧ True)))) ∧
              ((true = true) ∧
              True))
              ((true = false) ∧
              True))
             ((true = false) ∧
             True))
            (br (ck a a == (0 : Int))
             ((true = false) ∧
             True)
             ((true = false) ∧
             True)))
           (br (decide (ck a b ≥ (-1 : Int)))
            (br (ck a a == (0 : Int))
             (br (decide (ck a c < (0 : Int)))
              (br (decide (ck a b ≤ (1 : Int)))
               (((True ∧ (True ∧ (True ∧ True)))) ∧
               ((true = true) ∧
               True))
               ((true = false) ∧
               True))
              ((true = false) ∧
              True))
             ((true = false) ∧
             True))
            (br (ck a a == (0 : Int))
             (br (decide (ck a c < (0 : Int)))
              ((true = false) ∧
              True)
              ((true = false) ∧
              True))
             ((true = false) ∧
             True))))
          (br (decide (ck a b ≥ (-1 : Int)))
           (br (ck a a == (0 : Int))
            (br (decide (ck a b ≤ (1 : Int)))
             (((True ∧ (True ∧ (True ∧ True)))) ∧
             ((true = true) ∧
             True))
             ((true = false) ∧
             True))
            ((true = false) ∧
            True))
           (br (ck a a == (0 : Int))
            ((true = false) ∧
            True)
            ((true = false) ∧
            True))))
         (br (decide (ck a b < (0 : Int)))
          (br (!decide (ck b c ≤ (0 : Int)))
           (br (decide (ck a b ≥ (-1 : Int)))
            (br (ck a a == (0 : Int))
             (br (decide (ck a c ≤ (0 : Int)))
              (br (decide (ck a b ≤ (1 : Int)))
               (((True ∧ (True ∧ (True ∧ True)))) ∧
               ((true = true) ∧
               True))
               ((true = false) ∧
               True))
              ((true = false) ∧
              True))
             ((true = false) ∧
             True))
            (br (ck a a == (0 : Int))
             (br (decide (ck a c ≤ (0 : Int)))
              ((true = false) ∧
              True)
              ((true = false) ∧
              True))
             ((true = false) ∧
             True)))
           (br (decide (ck a b ≥ (-1 : Int)))
            (br (ck a a == (0 : Int))
             (br (decide (ck a c ≤ (0 : Int)))
              (br (decide (ck a c < (0 : Int)))
               (br (decide (ck a b ≤ (1 : Int)))
                (((True ∧ (True ∧ (True ∧ True)))) ∧
                ((true = true) ∧
                True))
                ((true = false) ∧
                True))
               ((true = false) ∧
               True))
              ((true = false) ∧
              True))
             ((true = false) ∧
             True))
            (br (ck a a == (0 : Int))
             (br (decide (ck a c ≤ (0 : Int)))
              (br (decide (ck a c < (0 : Int)))
               ((true = false) ∧
               True)
               ((true = false) ∧
               True))
              ((true = false) ∧
              True))
             ((true = false) ∧
             True))))
          (br (decide (ck a b ≥ (-1 : Int)))
           (br (ck a a == (0 : Int))
            (br (decide (ck a c ≤ (0 : Int)))
             (br (decide (ck a b ≤ (1 : Int)))
              (((True ∧ (True ∧ (True ∧ True)))) ∧
              ((true = true) ∧
              True))
              ((true = false) ∧
              True))
             ((true = false) ∧
             True))
            ((true = false) ∧
            True))
           (br (ck a a == (0 : Int))
            (br (decide (ck a c ≤ (0 : Int)))
             ((true = false) ∧
             True)
             ((true = false) ∧
             True))
            ((true = false) ∧
            True)))))
        (br (decide (ck a b < (0 : Int)))
         (br (!decide (ck b c ≤ (0 : Int)))
          (br (decide (ck a b ≥ (-1 : Int)))
           (br (ck a a == (0 : Int))
            (br (decide (ck a b ≤ (1 : Int)))
             (((True ∧ (True ∧ (True ∧ True)))) ∧
             ((true = true) ∧
             True))
             ((true = false) ∧
             True))
            ((true = false) ∧
            True))
           (br (ck a a == (0 : Int))
            ((true = false) ∧
            True)
            ((true = false) ∧
            True)))
          (br (decide (ck a b ≥ (-1 : Int)))
           (br (ck a a == (0 : Int))
            (br (decide (ck a c < (0 : Int)))
             (br (decide (ck a b ≤ (1 : Int)))
              (((True ∧ (True ∧ (True ∧ True)))) ∧
              ((true = true) ∧
              True))
              ((true = false) ∧
              True))
             ((true = false) ∧
             True))
            ((true = false) ∧
            True))
           (br (ck a a == (0 : Int))
            (br (decide (ck a c < (0 : Int)))
             ((true = false) ∧
             True)
             ((true = false) ∧
             True))
            ((true = false) ∧
            True))))
         (br (decide (ck a b ≥ (-1 : Int)))
          (br (ck a a == (0 : Int))
           (br (decide (ck a b ≤ (1 : Int)))
            (((True ∧ (True ∧ (True ∧ True)))) ∧
            ((true = true) ∧
            True))
            ((true = false) ∧
            True))
           ((true = false) ∧
           True))
          (br (ck a a == (0 : Int))
           ((true = false) ∧
           True)
           ((true = false) ∧
           True))))))))))
       ((Value.float FloatKind.f64 b = Value.float FloatKind.f64 b) ∧
       ((Value.float FloatKind.f64 a = Value.float FloatKind.f64 a) ∧
       (br (decide (ck a b ≤ (0 : Int)))
        (br (!decide (ck b c ≤ (0 : Int)))
         (br (decide (ck a b < (0 : Int)))
          (br (!decide (ck b c ≤ (0 : Int)))
           (br (decide (ck a b ≥ (-1 : Int)))
            ((true = false) ∧
            True)
            ((true = false) ∧
            True))
           (br (decide (ck a b ≥ (-1 : Int)))
            ((true = false) ∧
            True)
            ((true = false) ∧
            True)))
          (br (decide (ck a b ≥ (-1 : Int)))
           ((true = false) ∧
           True)
           ((true = false) ∧
           True)))
         (br (decide (ck a b < (0 : Int)))
          (br (!decide (ck b c ≤ (0 : Int)))
           (br (decide (ck a b ≥ (-1 : Int)))
            ((true = false) ∧
            True)
            ((true = false) ∧
            True))
           (br (decide (ck a b ≥ (-1 : Int)))
            ((true = false) ∧
            True)
            ((true = false) ∧
            True)))
          (br (decide (ck a b ≥ (-1 : Int)))
           ((true = false) ∧
           True)
           ((true = false) ∧
           True))))
        (br (decide (ck a b < (0 : Int)))
         (br (!decide (ck b c ≤ (0 : Int)))
          (br (decide (ck a b ≥ (-1 : Int)))
           ((true = false) ∧
           True)
           ((true = false) ∧
           True))
          (br (decide (ck a b ≥ (-1 : Int)))
           ((true = false) ∧
           True)
           ((true = false) ∧
           True)))
         (br (decide (ck a b ≥ (-1 : Int)))
          ((true = false) ∧
          True)
          ((true = false) ∧
          True))))))))))))))))))))))))
     ((((True ∧ (True ∧ True)) ∧ (True ∧ (True ∧ True)))) ∧
     ((((True ∧ (True ∧ True)) ∧ (True ∧ (True ∧ True)))) ∧
     ((((True ∧ (True ∧ True)) ∧ (True ∧ (True ∧ True)))) ∧
     ((Value.float FloatKind.f64 a = Value.float FloatKind.f64 a) ∧
     ((Value.float FloatKind.f64 b = Value.float FloatKind.f64 b) ∧
     ((Value.float FloatKind.f64 b = Value.float FloatKind.f64 b) ∧
     ((Value.float FloatKind.f64 b = Value.float FloatKind.f64 b) ∧
     ((Value.float FloatKind.f64 c = Value.float FloatKind.f64 c) ∧
     ((Value.float FloatKind.f64 c = Value.float FloatKind.f64 c) ∧
     ((Value.float FloatKind.f64 a = Value.float FloatKind.f64 a) ∧
     ((Value.float FloatKind.f64 a = Value.float FloatKind.f64 a) ∧
     ((Value.float FloatKind.f64 a = Value.float FloatKind.f64 a) ∧
     ((Value.float FloatKind.f64 c = Value.float FloatKind.f64 c) ∧
     ((Value.float FloatKind.f64 c = Value.float FloatKind.f64 c) ∧
     ((Value.float FloatKind.f64 c = Value.float FloatKind.f64 c) ∧
     ((((True ∧ (True ∧ True)) ∧ (True ∧ (True ∧ True)))) ∧
     (br (ck b a == IntKind.wrap IntKind.i64 ((0 : Int) - ck a b))
      ((((True ∧ (True ∧ True)) ∧ (True ∧ (True ∧ True)))) ∧
      ((Value.float FloatKind.f64 b = Value.float FloatKind.f64 b) ∧
      ((Value.float FloatKind.f64 a = Value.float FloatKind.f64 a) ∧
      ((Value.float FloatKind.f64 a = Value.float FloatKind.f64 a) ∧
      ((Value.float FloatKind.f64 a = Value.float FloatKind.f64 a) ∧
      (br (decide (ck a b ≤ (0 : Int)))
       (br (!decide (ck b c ≤ (0 : Int)))
        (br (decide (ck a b < (0 : Int)))
         (br (!decide (ck b c ≤ (0 : Int)))
          (br (decide (ck a b ≥ (-1 : Int)))
           (br (ck a a == (0 : Int))
            (br (decide (ck a b ≤ (1 : Int)))
             (((True ∧ (True ∧ (True ∧ True)))) ∧
             ((true = true) ∧
             True))
             ((true = false) ∧
             True))
            ((true = false) ∧
            True))
           (br (ck a a == (0 : Int))
            ((true = false) ∧
            True)
            ((true = false) ∧
            True)))
          (br (decide (ck a b ≥ (-1 : Int)))
           (br (ck a a == (0 : Int))
            (br (decide (ck a c < (0 : Int)))
             (br (decide (ck a b ≤ (1 : Int)))
              (((True ∧ (True ∧ (True ∧ True)))) ∧
              ((true = true) ∧
              True))
              ((true = false) ∧
              True))
             ((true = false) ∧
             True))
            ((true = false) ∧
            True))
           (br (ck a a == (0 : Int))
            (br (decide (ck a c < (0 : Int)))
             ((true = false) ∧
             True)
             ((true = false) ∧
             True))
            ((true = false) ∧
            True))))
         (br (decide (ck a b ≥ (-1 : Int)))
          (br (ck a a == (0 : Int))
           (br (decide (ck a b ≤ (1 : Int)))
            (((True ∧ (True ∧ (True ∧ True)))) ∧
            ((true = true) ∧
            True))
            ((true = false) ∧
            True))
           ((true = false) ∧
           True))
          (br (ck a a == (0 : Int))
           ((true = false) ∧
           True)
           ((true = false) ∧
           True))))
        (br (decide (ck a b < (0 : Int)))
         (br (!decide (ck b c ≤ (0 : Int)))
          (br (decide (ck a b ≥ (-1 : Int)))
           (br (ck a a == (0 : Int))
            (br (decide (ck a c ≤ (0 : Int)))
             (br (decide (ck a b ≤ (1 : Int)))
              (((True ∧ (True ∧ (True ∧ True)))) ∧
              ((true = true) ∧
              True))
              ((true = false) ∧
              True))
             ((true = false) ∧
             True))
            ((true = false) ∧
            True))
           (br (ck a a == (0 : Int))
            (br (decide (ck a c ≤ (0 : Int)))
             ((true = false) ∧
             True)
             ((true = false) ∧
             True))
            ((true = false) ∧
            True)))
          (br (decide (ck a b ≥ (-1 : Int)))
           (br (ck a a == (0 : Int))
            (br (decide (ck a c ≤ (0 : Int)))
             (br (decide (ck a c < (0 : Int)))
              (br (decide (ck a b ≤ (1 : Int)))
               (((True ∧ (True ∧ (True ∧ True)))) ∧
               ((true = true) ∧
               True))
               ((true = false) ∧
               True))
              ((true = false) ∧
              True))
             ((true = false) ∧
             True))
            ((true = false) ∧
            True))
           (br (ck a a == (0 : Int))
            (br (decide (ck a c ≤ (0 : Int)))
             (br (decide (ck a c < (0 : Int)))
              ((true = false) ∧
              True)
              ((true = false) ∧
              True))
             ((true = false) ∧
             True))
            ((true = false) ∧
            True))))
         (br (decide (ck a b ≥ (-1 : Int)))
          (br (ck a a == (0 : Int))
           (br (decide (ck a c ≤ (0 : Int)))
            (br (decide (ck a b ≤ (1 : Int)))
             (((True ∧ (True ∧ (True ∧ True)))) ∧
             ((true = true) ∧
             True))
             ((true = false) ∧
             True))
            ((true = false) ∧
            True))
           ((true = false) ∧
           True))
          (br (ck a a == (0 : Int))
           (br (decide (ck a c ≤ (0 : Int)))
            ((true = false) ∧
            True)
            ((true = false) ∧
            True))
           ((true = false) ∧
           True)))))
       (br (decide (ck a b < (0 : Int)))
        (br (!decide (ck b c ≤ (0 : Int)))
         (br (decide (ck a b ≥ (-1 : Int)))
          (br (ck a a == (0 : Int))
           (br (decide (ck a b ≤ (1 : Int)))
            (((True ∧ (True ∧ (True ∧ True)))) ∧
            ((true = true) ∧
            True))
            ((true = false) ∧
            True))
           ((true = false) ∧
           True))
          (br (ck a a == (0 : Int))
           ((true = false) ∧
           True)
           ((true = false) ∧
           True)))
         (br (decide (ck a b ≥ (-1 : Int)))
          (br (ck a a == (0 : Int))
           (br (decide (ck a c < (0 : Int)))
            (br (decide (ck a b ≤ (1 : Int)))
             (((True ∧ (True ∧ (True ∧ True)))) ∧
             ((true = true) ∧
             True))
             ((true = false) ∧
             True))
            ((true = false) ∧
            True))
           ((true = false) ∧
           True))
          (br (ck a a == (0 : Int))
           (br (decide (ck a c < (0 : Int)))
            ((true = false) ∧
            True)
            ((true = false) ∧
            True))
           ((true = false) ∧
           True))))
        (br (decide (ck a b ≥ (-1 : Int)))
         (br (ck a a == (0 : Int))
          (br (decide (ck a b ≤ (1 : Int)))
           (((True ∧ (True ∧ (True ∧ True)))) ∧
           ((true = true) ∧
           True))
           ((true = false) ∧
           True))
          ((true = false) ∧
          True))
         (br (ck a a == (0 : Int))
          ((true = false) ∧
          True)
          ((true = false) ∧
          True))))))))))
      ((Value.float FloatKind.f64 b = Value.float FloatKind.f64 b) ∧
      ((Value.float FloatKind.f64 a = Value.float FloatKind.f64 a) ∧
      (br (decide (ck a b ≤ (0 : Int)))
       (br (!decide (ck b c ≤ (0 : Int)))
        (br (decide (ck a b < (0 : Int)))
         (br (!decide (ck b c ≤ (0 : Int)))
          (br (decide (ck a b ≥ (-1 : Int)))
           ((true = false) ∧
           True)
           ((true = false) ∧
           True))
          (br (decide (ck a b ≥ (-1 : Int)))
           ((true = false) ∧
           True)
           ((true = false) ∧
           True)))
         (br (decide (ck a b ≥ (-1 : Int)))
          ((true = false) ∧
          True)
          ((true = false) ∧
          True)))
        (br (decide (ck a b < (0 : Int)))
         (br (!decide (ck b c ≤ (0 : Int)))
          (br (decide (ck a b ≥ (-1 : Int)))
           ((true = false) ∧
           True)
           ((true = false) ∧
           True))
          (br (decide (ck a b ≥ (-1 : Int)))
           ((true = false) ∧
           True)
           ((true = false) ∧
           True)))
         (br (decide (ck a b ≥ (-1 : Int)))
          ((true = false) ∧
          True)
          ((true = false) ∧
          True))))
       (br (decide (ck a b < (0 : Int)))
        (br (!decide (ck b c ≤ (0 : Int)))
         (br (decide (ck a b ≥ (-1 : Int)))
          ((true = false) ∧
          True)
          ((true = false) ∧
          True))
         (br (decide (ck a b ≥ (-1 : Int)))
          ((true = false) ∧
          True)
          ((true = false) ∧
          True)))
        (br (decide (ck a b ≥ (-1 : Int)))
         ((true = false) ∧
         True)
         ((true = false) ∧
         True)))))))))))))))))))))))))) := by kernel_rfl
theorem tO_ok : ∀ x ∈ tO, EntOk Try.prog x := all_cons eRuns_ok (all_cons eCk_ok (all_cons eEd_ok (all_nil)))
/-- An array of whole numbers as an argument. -/
theorem array_arg {P : Program} {W : World} {t : TypeId} {n : Nat} {e : TypeId} {k : IntKind} {m : Nat} {ts : List TypeId} {r : Reach} {b0 : Nat} {v : Value} (ht : P.underlying t = some (.array n e))
    (hts : P.cellTypes P.depth t = some ts) (hc : P.cellsOf t = m) (hk : ts.all (fun u => match P.underlying u with | some (.int k') => decide (k' = k) | _ => false) = true) (hval : Value.okWide P W r b0 t v) : ∃ cs, v = .agg ⟨cs⟩ ∧ cs.length = m ∧ ∀ x ∈ cs, ∃ n, x = .int k n ∧ (Lit.int k n).wf = true := by
  unfold Value.okWide at hval
  rw [ht] at hval
  simp only at hval
  obtain ⟨⟨cs⟩, rfl, hsz, ts', hts', _, hrow⟩ := hval
  rw [hts] at hts'
  simp only [Option.some.injEq] at hts'
  subst hts'
  refine ⟨cs, rfl, by rw [← hc]; simpa using hsz, fun x hx => ?_⟩
  obtain ⟨i, hi⟩ := List.getElem?_of_mem hx
  obtain ⟨u, hu, hcell⟩ := hrow i x (by simpa using hi)
  have h1 := List.all_eq_true.1 hk u (List.mem_of_getElem? hu)
  split at h1
  · rename_i k' hu'
    have : k' = k := by simpa using h1
    subst this
    unfold Cell.okWide at hcell
    rw [hu'] at hcell
    simp only at hcell
    unfold Cell.ok at hcell
    rw [hu'] at hcell
    cases x <;> first | exact hcell.elim | (obtain ⟨rfl, hw⟩ := hcell; exact ⟨_, rfl, by simpa [Lit.wf, IntKind.has] using hw⟩)
  · simp at h1
theorem tri (a b : Nat) : (ck a b = -1 ∧ ck b a = 1 ∧ (rk a < rk b ∨ (rk a = rk b ∧ fv a < fv b))) ∨ (ck a b = 0 ∧ ck b a = 0 ∧ rk a = rk b ∧ fv a = fv b) ∨ (ck a b = 1 ∧ ck b a = -1 ∧ (rk b < rk a ∨ (rk a = rk b ∧ fv b < fv a))) := by
  unfold ck
  generalize rk a = x
  generalize rk b = y
  split
  · rw [if_neg (by omega), if_pos (by omega)]; omega
  · split
    · rw [if_pos (by omega)]; omega
    · rw [if_neg (by omega), if_neg (by omega)]; omega
set_option maxHeartbeats 0 in
theorem ord_facts (x y z : Nat) : (ck x y = -1 ∧ ck y x = 1 ∧ ck y z = -1 ∧ ck x z = -1) ∨ (ck x y = -1 ∧ ck y x = 1 ∧ ck y z = 0 ∧ ck x z = -1) ∨ (ck x y = -1 ∧ ck y x = 1 ∧ ck y z = 1 ∧ ck x z = -1) ∨ (ck x y = -1 ∧ ck y x = 1 ∧ ck y z = 1 ∧ ck x z = 0) ∨ (ck x y = -1 ∧ ck y x = 1 ∧ ck y z = 1 ∧ ck x z = 1) ∨ (ck x y = 0 ∧ ck y x = 0 ∧ ck y z = -1 ∧ ck x z = -1) ∨ (ck x y = 0 ∧ ck y x = 0 ∧ ck y z = 0 ∧ ck x z = 0) ∨ (ck x y = 0 ∧ ck y x = 0 ∧ ck y z = 1 ∧ ck x z = 1) ∨ (ck x y = 1 ∧ ck y x = -1 ∧ ck y z = -1 ∧ ck x z = -1) ∨ (ck x y = 1 ∧ ck y x = -1 ∧ ck y z = -1 ∧ ck x z = 0) ∨ (ck x y = 1 ∧ ck y x = -1 ∧ ck y z = -1 ∧ ck x z = 1) ∨ (ck x y = 1 ∧ ck y x = -1 ∧ ck y z = 0 ∧ ck x z = 1) ∨ (ck x y = 1 ∧ ck y x = -1 ∧ ck y z = 1 ∧ ck x z = 1) := by
  have h1 := tri x y
  have h2 := tri y z
  have h3 := tri x z
  rcases h1 with h1 | h1 | h1 <;> rcases h2 with h2 | h2 | h2 <;> rcases h3 with h3 | h3 | h3 <;> first | (simp only [h1.1, h1.2.1, h2.1, h3.1]; decide) | (exfalso; obtain ⟨_, _, h1⟩ := h1; obtain ⟨_, _, h2⟩ := h2; obtain ⟨_, _, h3⟩ := h3; omega)
set_option maxHeartbeats 0 in
theorem ord_law (a b c : Nat) (i j k : Int) (_ : I64 i) (_ : I64 j) (_ : I64 k) : Con Try.prog 6 [.float .f64 a, .float .f64 b, .float .f64 c, .agg ⟨[.int .i64 i, .int .i64 j, .int .i64 k]⟩] [] (.bool true) [] := by
  refine con_vc (E := EtO) mixed (calls_envT tO_ok) (lok_envT _ _) (M := noM) lm_none (Ord_vc a b c i j k) ?_
  simp only [ofNat_eq, toNat_cast, Nat.zero_add, Nat.add_zero, Nat.mul_one, List.drop_zero, bCells_len, bCells_drop, bCells_take, bCells_app, bCells_one, bCells_plain, List.length_replicate, List.length_append, List.length_take, List.length_drop, List.take_length, and_true, true_and, and_self, decide_true, List.length_nil, List.length_cons, Nat.sub_zero, dB_mk, dB_ro, List.take_zero]
  refine br_if (fun _ => br_if (fun _ => ⟨⟨by omega, by omega⟩, ?_⟩) (fun _ => ?_)) (fun _ => ?_)
  · refine br_if (fun _ => br_if (fun _ => ⟨⟨by omega, by omega⟩, ?_⟩) (fun _ => ?_)) (fun _ => ?_)
    · refine br_if (fun _ => br_if (fun _ => ⟨⟨by omega, by omega⟩, ?_⟩) (fun _ => ?_)) (fun _ => ?_)
      · rcases ord_facts (edW i) (edW j) (edW k) with ⟨h1, h2, h3, h4⟩ | ⟨h1, h2, h3, h4⟩ | ⟨h1, h2, h3, h4⟩ | ⟨h1, h2, h3, h4⟩ | ⟨h1, h2, h3, h4⟩ | ⟨h1, h2, h3, h4⟩ | ⟨h1, h2, h3, h4⟩ | ⟨h1, h2, h3, h4⟩ | ⟨h1, h2, h3, h4⟩ | ⟨h1, h2, h3, h4⟩ | ⟨h1, h2, h3, h4⟩ | ⟨h1, h2, h3, h4⟩ | ⟨h1, h2, h3, h4⟩ <;> (simp only [h1, h2, h3, h4, ck_self]; exact of_eq_true (by kernel_rfl))
      · rcases ord_facts (edW i) (edW j) (c) with ⟨h1, h2, h3, h4⟩ | ⟨h1, h2, h3, h4⟩ | ⟨h1, h2, h3, h4⟩ | ⟨h1, h2, h3, h4⟩ | ⟨h1, h2, h3, h4⟩ | ⟨h1, h2, h3, h4⟩ | ⟨h1, h2, h3, h4⟩ | ⟨h1, h2, h3, h4⟩ | ⟨h1, h2, h3, h4⟩ | ⟨h1, h2, h3, h4⟩ | ⟨h1, h2, h3, h4⟩ | ⟨h1, h2, h3, h4⟩ | ⟨h1, h2, h3, h4⟩ <;> (simp only [h1, h2, h3, h4, ck_self]; exact of_eq_true (by kernel_rfl))
      · rcases ord_facts (edW i) (edW j) (c) with ⟨h1, h2, h3, h4⟩ | ⟨h1, h2, h3, h4⟩ | ⟨h1, h2, h3, h4⟩ | ⟨h1, h2, h3, h4⟩ | ⟨h1, h2, h3, h4⟩ | ⟨h1, h2, h3, h4⟩ | ⟨h1, h2, h3, h4⟩ | ⟨h1, h2, h3, h4⟩ | ⟨h1, h2, h3, h4⟩ | ⟨h1, h2, h3, h4⟩ | ⟨h1, h2, h3, h4⟩ | ⟨h1, h2, h3, h4⟩ | ⟨h1, h2, h3, h4⟩ <;> (simp only [h1, h2, h3, h4, ck_self]; exact of_eq_true (by kernel_rfl))
    · refine br_if (fun _ => br_if (fun _ => ⟨⟨by omega, by omega⟩, ?_⟩) (fun _ => ?_)) (fun _ => ?_)
      · rcases ord_facts (edW i) (b) (edW k) with ⟨h1, h2, h3, h4⟩ | ⟨h1, h2, h3, h4⟩ | ⟨h1, h2, h3, h4⟩ | ⟨h1, h2, h3, h4⟩ | ⟨h1, h2, h3, h4⟩ | ⟨h1, h2, h3, h4⟩ | ⟨h1, h2, h3, h4⟩ | ⟨h1, h2, h3, h4⟩ | ⟨h1, h2, h3, h4⟩ | ⟨h1, h2, h3, h4⟩ | ⟨h1, h2, h3, h4⟩ | ⟨h1, h2, h3, h4⟩ | ⟨h1, h2, h3, h4⟩ <;> (simp only [h1, h2, h3, h4, ck_self]; exact of_eq_true (by kernel_rfl))
      · rcases ord_facts (edW i) (b) (c) with ⟨h1, h2, h3, h4⟩ | ⟨h1, h2, h3, h4⟩ | ⟨h1, h2, h3, h4⟩ | ⟨h1, h2, h3, h4⟩ | ⟨h1, h2, h3, h4⟩ | ⟨h1, h2, h3, h4⟩ | ⟨h1, h2, h3, h4⟩ | ⟨h1, h2, h3, h4⟩ | ⟨h1, h2, h3, h4⟩ | ⟨h1, h2, h3, h4⟩ | ⟨h1, h2, h3, h4⟩ | ⟨h1, h2, h3, h4⟩ | ⟨h1, h2, h3, h4⟩ <;> (simp only [h1, h2, h3, h4, ck_self]; exact of_eq_true (by kernel_rfl))
      · rcases ord_facts (edW i) (b) (c) with ⟨h1, h2, h3, h4⟩ | ⟨h1, h2, h3, h4⟩ | ⟨h1, h2, h3, h4⟩ | ⟨h1, h2, h3, h4⟩ | ⟨h1, h2, h3, h4⟩ | ⟨h1, h2, h3, h4⟩ | ⟨h1, h2, h3, h4⟩ | ⟨h1, h2, h3, h4⟩ | ⟨h1, h2, h3, h4⟩ | ⟨h1, h2, h3, h4⟩ | ⟨h1, h2, h3, h4⟩ | ⟨h1, h2, h3, h4⟩ | ⟨h1, h2, h3, h4⟩ <;> (simp only [h1, h2, h3, h4, ck_self]; exact of_eq_true (by kernel_rfl))
    · refine br_if (fun _ => br_if (fun _ => ⟨⟨by omega, by omega⟩, ?_⟩) (fun _ => ?_)) (fun _ => ?_)
      · rcases ord_facts (edW i) (b) (edW k) with ⟨h1, h2, h3, h4⟩ | ⟨h1, h2, h3, h4⟩ | ⟨h1, h2, h3, h4⟩ | ⟨h1, h2, h3, h4⟩ | ⟨h1, h2, h3, h4⟩ | ⟨h1, h2, h3, h4⟩ | ⟨h1, h2, h3, h4⟩ | ⟨h1, h2, h3, h4⟩ | ⟨h1, h2, h3, h4⟩ | ⟨h1, h2, h3, h4⟩ | ⟨h1, h2, h3, h4⟩ | ⟨h1, h2, h3, h4⟩ | ⟨h1, h2, h3, h4⟩ <;> (simp only [h1, h2, h3, h4, ck_self]; exact of_eq_true (by kernel_rfl))
      · rcases ord_facts (edW i) (b) (c) with ⟨h1, h2, h3, h4⟩ | ⟨h1, h2, h3, h4⟩ | ⟨h1, h2, h3, h4⟩ | ⟨h1, h2, h3, h4⟩ | ⟨h1, h2, h3, h4⟩ | ⟨h1, h2, h3, h4⟩ | ⟨h1, h2, h3, h4⟩ | ⟨h1, h2, h3, h4⟩ | ⟨h1, h2, h3, h4⟩ | ⟨h1, h2, h3, h4⟩ | ⟨h1, h2, h3, h4⟩ | ⟨h1, h2, h3, h4⟩ | ⟨h1, h2, h3, h4⟩ <;> (simp only [h1, h2, h3, h4, ck_self]; exact of_eq_true (by kernel_rfl))
      · rcases ord_facts (edW i) (b) (c) with ⟨h1, h2, h3, h4⟩ | ⟨h1, h2, h3, h4⟩ | ⟨h1, h2, h3, h4⟩ | ⟨h1, h2, h3, h4⟩ | ⟨h1, h2, h3, h4⟩ | ⟨h1, h2, h3, h4⟩ | ⟨h1, h2, h3, h4⟩ | ⟨h1, h2, h3, h4⟩ | ⟨h1, h2, h3, h4⟩ | ⟨h1, h2, h3, h4⟩ | ⟨h1, h2, h3, h4⟩ | ⟨h1, h2, h3, h4⟩ | ⟨h1, h2, h3, h4⟩ <;> (simp only [h1, h2, h3, h4, ck_self]; exact of_eq_true (by kernel_rfl))
  · refine br_if (fun _ => br_if (fun _ => ⟨⟨by omega, by omega⟩, ?_⟩) (fun _ => ?_)) (fun _ => ?_)
    · refine br_if (fun _ => br_if (fun _ => ⟨⟨by omega, by omega⟩, ?_⟩) (fun _ => ?_)) (fun _ => ?_)
      · rcases ord_facts (a) (edW j) (edW k) with ⟨h1, h2, h3, h4⟩ | ⟨h1, h2, h3, h4⟩ | ⟨h1, h2, h3, h4⟩ | ⟨h1, h2, h3, h4⟩ | ⟨h1, h2, h3, h4⟩ | ⟨h1, h2, h3, h4⟩ | ⟨h1, h2, h3, h4⟩ | ⟨h1, h2, h3, h4⟩ | ⟨h1, h2, h3, h4⟩ | ⟨h1, h2, h3, h4⟩ | ⟨h1, h2, h3, h4⟩ | ⟨h1, h2, h3, h4⟩ | ⟨h1, h2, h3, h4⟩ <;> (simp only [h1, h2, h3, h4, ck_self]; exact of_eq_true (by kernel_rfl))
      · rcases ord_facts (a) (edW j) (c) with ⟨h1, h2, h3, h4⟩ | ⟨h1, h2, h3, h4⟩ | ⟨h1, h2, h3, h4⟩ | ⟨h1, h2, h3, h4⟩ | ⟨h1, h2, h3, h4⟩ | ⟨h1, h2, h3, h4⟩ | ⟨h1, h2, h3, h4⟩ | ⟨h1, h2, h3, h4⟩ | ⟨h1, h2, h3, h4⟩ | ⟨h1, h2, h3, h4⟩ | ⟨h1, h2, h3, h4⟩ | ⟨h1, h2, h3, h4⟩ | ⟨h1, h2, h3, h4⟩ <;> (simp only [h1, h2, h3, h4, ck_self]; exact of_eq_true (by kernel_rfl))
      · rcases ord_facts (a) (edW j) (c) with ⟨h1, h2, h3, h4⟩ | ⟨h1, h2, h3, h4⟩ | ⟨h1, h2, h3, h4⟩ | ⟨h1, h2, h3, h4⟩ | ⟨h1, h2, h3, h4⟩ | ⟨h1, h2, h3, h4⟩ | ⟨h1, h2, h3, h4⟩ | ⟨h1, h2, h3, h4⟩ | ⟨h1, h2, h3, h4⟩ | ⟨h1, h2, h3, h4⟩ | ⟨h1, h2, h3, h4⟩ | ⟨h1, h2, h3, h4⟩ | ⟨h1, h2, h3, h4⟩ <;> (simp only [h1, h2, h3, h4, ck_self]; exact of_eq_true (by kernel_rfl))
    · refine br_if (fun _ => br_if (fun _ => ⟨⟨by omega, by omega⟩, ?_⟩) (fun _ => ?_)) (fun _ => ?_)
      · rcases ord_facts (a) (b) (edW k) with ⟨h1, h2, h3, h4⟩ | ⟨h1, h2, h3, h4⟩ | ⟨h1, h2, h3, h4⟩ | ⟨h1, h2, h3, h4⟩ | ⟨h1, h2, h3, h4⟩ | ⟨h1, h2, h3, h4⟩ | ⟨h1, h2, h3, h4⟩ | ⟨h1, h2, h3, h4⟩ | ⟨h1, h2, h3, h4⟩ | ⟨h1, h2, h3, h4⟩ | ⟨h1, h2, h3, h4⟩ | ⟨h1, h2, h3, h4⟩ | ⟨h1, h2, h3, h4⟩ <;> (simp only [h1, h2, h3, h4, ck_self]; exact of_eq_true (by kernel_rfl))
      · rcases ord_facts (a) (b) (c) with ⟨h1, h2, h3, h4⟩ | ⟨h1, h2, h3, h4⟩ | ⟨h1, h2, h3, h4⟩ | ⟨h1, h2, h3, h4⟩ | ⟨h1, h2, h3, h4⟩ | ⟨h1, h2, h3, h4⟩ | ⟨h1, h2, h3, h4⟩ | ⟨h1, h2, h3, h4⟩ | ⟨h1, h2, h3, h4⟩ | ⟨h1, h2, h3, h4⟩ | ⟨h1, h2, h3, h4⟩ | ⟨h1, h2, h3, h4⟩ | ⟨h1, h2, h3, h4⟩ <;> (simp only [h1, h2, h3, h4, ck_self]; exact of_eq_true (by kernel_rfl))
      · rcases ord_facts (a) (b) (c) with ⟨h1, h2, h3, h4⟩ | ⟨h1, h2, h3, h4⟩ | ⟨h1, h2, h3, h4⟩ | ⟨h1, h2, h3, h4⟩ | ⟨h1, h2, h3, h4⟩ | ⟨h1, h2, h3, h4⟩ | ⟨h1, h2, h3, h4⟩ | ⟨h1, h2, h3, h4⟩ | ⟨h1, h2, h3, h4⟩ | ⟨h1, h2, h3, h4⟩ | ⟨h1, h2, h3, h4⟩ | ⟨h1, h2, h3, h4⟩ | ⟨h1, h2, h3, h4⟩ <;> (simp only [h1, h2, h3, h4, ck_self]; exact of_eq_true (by kernel_rfl))
    · refine br_if (fun _ => br_if (fun _ => ⟨⟨by omega, by omega⟩, ?_⟩) (fun _ => ?_)) (fun _ => ?_)
      · rcases ord_facts (a) (b) (edW k) with ⟨h1, h2, h3, h4⟩ | ⟨h1, h2, h3, h4⟩ | ⟨h1, h2, h3, h4⟩ | ⟨h1, h2, h3, h4⟩ | ⟨h1, h2, h3, h4⟩ | ⟨h1, h2, h3, h4⟩ | ⟨h1, h2, h3, h4⟩ | ⟨h1, h2, h3, h4⟩ | ⟨h1, h2, h3, h4⟩ | ⟨h1, h2, h3, h4⟩ | ⟨h1, h2, h3, h4⟩ | ⟨h1, h2, h3, h4⟩ | ⟨h1, h2, h3, h4⟩ <;> (simp only [h1, h2, h3, h4, ck_self]; exact of_eq_true (by kernel_rfl))
      · rcases ord_facts (a) (b) (c) with ⟨h1, h2, h3, h4⟩ | ⟨h1, h2, h3, h4⟩ | ⟨h1, h2, h3, h4⟩ | ⟨h1, h2, h3, h4⟩ | ⟨h1, h2, h3, h4⟩ | ⟨h1, h2, h3, h4⟩ | ⟨h1, h2, h3, h4⟩ | ⟨h1, h2, h3, h4⟩ | ⟨h1, h2, h3, h4⟩ | ⟨h1, h2, h3, h4⟩ | ⟨h1, h2, h3, h4⟩ | ⟨h1, h2, h3, h4⟩ | ⟨h1, h2, h3, h4⟩ <;> (simp only [h1, h2, h3, h4, ck_self]; exact of_eq_true (by kernel_rfl))
      · rcases ord_facts (a) (b) (c) with ⟨h1, h2, h3, h4⟩ | ⟨h1, h2, h3, h4⟩ | ⟨h1, h2, h3, h4⟩ | ⟨h1, h2, h3, h4⟩ | ⟨h1, h2, h3, h4⟩ | ⟨h1, h2, h3, h4⟩ | ⟨h1, h2, h3, h4⟩ | ⟨h1, h2, h3, h4⟩ | ⟨h1, h2, h3, h4⟩ | ⟨h1, h2, h3, h4⟩ | ⟨h1, h2, h3, h4⟩ | ⟨h1, h2, h3, h4⟩ | ⟨h1, h2, h3, h4⟩ <;> (simp only [h1, h2, h3, h4, ck_self]; exact of_eq_true (by kernel_rfl))
  · refine br_if (fun _ => br_if (fun _ => ⟨⟨by omega, by omega⟩, ?_⟩) (fun _ => ?_)) (fun _ => ?_)
    · refine br_if (fun _ => br_if (fun _ => ⟨⟨by omega, by omega⟩, ?_⟩) (fun _ => ?_)) (fun _ => ?_)
      · rcases ord_facts (a) (edW j) (edW k) with ⟨h1, h2, h3, h4⟩ | ⟨h1, h2, h3, h4⟩ | ⟨h1, h2, h3, h4⟩ | ⟨h1, h2, h3, h4⟩ | ⟨h1, h2, h3, h4⟩ | ⟨h1, h2, h3, h4⟩ | ⟨h1, h2, h3, h4⟩ | ⟨h1, h2, h3, h4⟩ | ⟨h1, h2, h3, h4⟩ | ⟨h1, h2, h3, h4⟩ | ⟨h1, h2, h3, h4⟩ | ⟨h1, h2, h3, h4⟩ | ⟨h1, h2, h3, h4⟩ <;> (simp only [h1, h2, h3, h4, ck_self]; exact of_eq_true (by kernel_rfl))
      · rcases ord_facts (a) (edW j) (c) with ⟨h1, h2, h3, h4⟩ | ⟨h1, h2, h3, h4⟩ | ⟨h1, h2, h3, h4⟩ | ⟨h1, h2, h3, h4⟩ | ⟨h1, h2, h3, h4⟩ | ⟨h1, h2, h3, h4⟩ | ⟨h1, h2, h3, h4⟩ | ⟨h1, h2, h3, h4⟩ | ⟨h1, h2, h3, h4⟩ | ⟨h1, h2, h3, h4⟩ | ⟨h1, h2, h3, h4⟩ | ⟨h1, h2, h3, h4⟩ | ⟨h1, h2, h3, h4⟩ <;> (simp only [h1, h2, h3, h4, ck_self]; exact of_eq_true (by kernel_rfl))
      · rcases ord_facts (a) (edW j) (c) with ⟨h1, h2, h3, h4⟩ | ⟨h1, h2, h3, h4⟩ | ⟨h1, h2, h3, h4⟩ | ⟨h1, h2, h3, h4⟩ | ⟨h1, h2, h3, h4⟩ | ⟨h1, h2, h3, h4⟩ | ⟨h1, h2, h3, h4⟩ | ⟨h1, h2, h3, h4⟩ | ⟨h1, h2, h3, h4⟩ | ⟨h1, h2, h3, h4⟩ | ⟨h1, h2, h3, h4⟩ | ⟨h1, h2, h3, h4⟩ | ⟨h1, h2, h3, h4⟩ <;> (simp only [h1, h2, h3, h4, ck_self]; exact of_eq_true (by kernel_rfl))
    · refine br_if (fun _ => br_if (fun _ => ⟨⟨by omega, by omega⟩, ?_⟩) (fun _ => ?_)) (fun _ => ?_)
      · rcases ord_facts (a) (b) (edW k) with ⟨h1, h2, h3, h4⟩ | ⟨h1, h2, h3, h4⟩ | ⟨h1, h2, h3, h4⟩ | ⟨h1, h2, h3, h4⟩ | ⟨h1, h2, h3, h4⟩ | ⟨h1, h2, h3, h4⟩ | ⟨h1, h2, h3, h4⟩ | ⟨h1, h2, h3, h4⟩ | ⟨h1, h2, h3, h4⟩ | ⟨h1, h2, h3, h4⟩ | ⟨h1, h2, h3, h4⟩ | ⟨h1, h2, h3, h4⟩ | ⟨h1, h2, h3, h4⟩ <;> (simp only [h1, h2, h3, h4, ck_self]; exact of_eq_true (by kernel_rfl))
      · rcases ord_facts (a) (b) (c) with ⟨h1, h2, h3, h4⟩ | ⟨h1, h2, h3, h4⟩ | ⟨h1, h2, h3, h4⟩ | ⟨h1, h2, h3, h4⟩ | ⟨h1, h2, h3, h4⟩ | ⟨h1, h2, h3, h4⟩ | ⟨h1, h2, h3, h4⟩ | ⟨h1, h2, h3, h4⟩ | ⟨h1, h2, h3, h4⟩ | ⟨h1, h2, h3, h4⟩ | ⟨h1, h2, h3, h4⟩ | ⟨h1, h2, h3, h4⟩ | ⟨h1, h2, h3, h4⟩ <;> (simp only [h1, h2, h3, h4, ck_self]; exact of_eq_true (by kernel_rfl))
      · rcases ord_facts (a) (b) (c) with ⟨h1, h2, h3, h4⟩ | ⟨h1, h2, h3, h4⟩ | ⟨h1, h2, h3, h4⟩ | ⟨h1, h2, h3, h4⟩ | ⟨h1, h2, h3, h4⟩ | ⟨h1, h2, h3, h4⟩ | ⟨h1, h2, h3, h4⟩ | ⟨h1, h2, h3, h4⟩ | ⟨h1, h2, h3, h4⟩ | ⟨h1, h2, h3, h4⟩ | ⟨h1, h2, h3, h4⟩ | ⟨h1, h2, h3, h4⟩ | ⟨h1, h2, h3, h4⟩ <;> (simp only [h1, h2, h3, h4, ck_self]; exact of_eq_true (by kernel_rfl))
    · refine br_if (fun _ => br_if (fun _ => ⟨⟨by omega, by omega⟩, ?_⟩) (fun _ => ?_)) (fun _ => ?_)
      · rcases ord_facts (a) (b) (edW k) with ⟨h1, h2, h3, h4⟩ | ⟨h1, h2, h3, h4⟩ | ⟨h1, h2, h3, h4⟩ | ⟨h1, h2, h3, h4⟩ | ⟨h1, h2, h3, h4⟩ | ⟨h1, h2, h3, h4⟩ | ⟨h1, h2, h3, h4⟩ | ⟨h1, h2, h3, h4⟩ | ⟨h1, h2, h3, h4⟩ | ⟨h1, h2, h3, h4⟩ | ⟨h1, h2, h3, h4⟩ | ⟨h1, h2, h3, h4⟩ | ⟨h1, h2, h3, h4⟩ <;> (simp only [h1, h2, h3, h4, ck_self]; exact of_eq_true (by kernel_rfl))
      · rcases ord_facts (a) (b) (c) with ⟨h1, h2, h3, h4⟩ | ⟨h1, h2, h3, h4⟩ | ⟨h1, h2, h3, h4⟩ | ⟨h1, h2, h3, h4⟩ | ⟨h1, h2, h3, h4⟩ | ⟨h1, h2, h3, h4⟩ | ⟨h1, h2, h3, h4⟩ | ⟨h1, h2, h3, h4⟩ | ⟨h1, h2, h3, h4⟩ | ⟨h1, h2, h3, h4⟩ | ⟨h1, h2, h3, h4⟩ | ⟨h1, h2, h3, h4⟩ | ⟨h1, h2, h3, h4⟩ <;> (simp only [h1, h2, h3, h4, ck_self]; exact of_eq_true (by kernel_rfl))
      · rcases ord_facts (a) (b) (c) with ⟨h1, h2, h3, h4⟩ | ⟨h1, h2, h3, h4⟩ | ⟨h1, h2, h3, h4⟩ | ⟨h1, h2, h3, h4⟩ | ⟨h1, h2, h3, h4⟩ | ⟨h1, h2, h3, h4⟩ | ⟨h1, h2, h3, h4⟩ | ⟨h1, h2, h3, h4⟩ | ⟨h1, h2, h3, h4⟩ | ⟨h1, h2, h3, h4⟩ | ⟨h1, h2, h3, h4⟩ | ⟨h1, h2, h3, h4⟩ | ⟨h1, h2, h3, h4⟩ <;> (simp only [h1, h2, h3, h4, ck_self]; exact of_eq_true (by kernel_rfl))
end Go.Proofs.Ytgnpilaadggegaa.fl
