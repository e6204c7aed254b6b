/- What may be kept: the answer. -/
import Derived.Test.YtjodnailnpnpnaaSz9
import Derived.Test.YtjodnailnpnpnaaRows
import Derived.Test.YtjodnailnpnpnaaLkpStar
import Derived.Test.YtjodnailnpnpnaaLctOf
set_option linter.unusedSimpArgs false
set_option linter.unusedVariables false
namespace Go.Proofs.Ytjodnailnpnpnaa.tk
open Go Go.Ev Go.Sy Go.RowKit Go.Proofs.Ytjodnailnpnpnaa.gl
def cMy : FuncId → List Value → List Row → Option (Prop × Value × List Row)
  | 18, [.slice (some ⟨0, 0, none⟩) n 2], [r0] => some (IsF r0 n ∧ n ≤ maxLen ∧ ctB r0 ≤ 16777000, .agg ⟨enC (ctR r0)⟩, [])
  | 19, [.slice (some ⟨0, 0, none⟩) n 2], [r0] => some (IsF r0 n ∧ n ≤ maxLen ∧ vaB r0 ≤ 16777000, .tuple #[.slice (some ⟨1, 0, none⟩) (stN r0) 1, .bool (stB r0)], [⟨stC r0, false, .cells true⟩])
  | 20, [.slice (some ⟨0, 0, none⟩) n 2, .string s], [r0] => some (IsF r0 n ∧ n ≤ maxLen ∧ alB r0 s ≤ 16777216, .bool (hasB r0 s), [])
  | 17, [.int .i64 n], [] => some (True, .bool (plB n), [])
  | _, _, _ => none
noncomputable abbrev EMy : Env := envC Try.prog cMy (fun f => Nat.beq f 18 || Nat.beq f 19 || Nat.beq f 20 || Nat.beq f 17)
def BigL (l : List Fl) : Prop := ∀ nm, (allL l nm).length ≤ 16777000
theorem has_vc (l : List Fl) (s : List UInt8) (v : Bool) : mcall EKs noM 60 20 [.slice (some ⟨0, 0, none⟩) l.length 2, .string (bs s)] ⟨mkR (nums 0 [gRo enF l]), 1⟩ (retIs 1 (.bool v) [gRo enF l]) =
  ((((((0 : Nat) + List.length l * (2 : Nat) ≤ List.length (gC enF l) ∧ Plain (List.take (List.length l * (2 : Nat)) (List.drop (0 : Nat) (gC enF l)))) ∧ (True ∧ True)) ∧ (True ∧ (IsF (Row.mk (List.take (List.length l * (2 : Nat)) (List.drop (0 : Nat) (gC enF l))) true (Ob.cells true)) (List.length l) ∧ (List.length l ≤ (9223372036854775807 : Nat) ∧ alB (Row.mk (List.take (List.length l * (2 : Nat)) (List.drop (0 : Nat) (gC enF l))) true (Ob.cells true)) (bs s) ≤ (16777216 : Nat)))))) ∧
  ((v = decide (alN (Row.mk (List.take (List.length l * (2 : Nat)) (List.drop (0 : Nat) (gC enF l))) true (Ob.cells true)) (bs s) > (0 : Int))) ∧
  ((Eq (α := List Value) (gC enF l) (gC enF l)) ∧
  ((Plain (gC enF l)) ∧
  True)))) := by kernel_rfl
theorem plain_vc (n : Int) (v : Bool) : mcall E0 noM 60 17 [.int .i64 n] ⟨mkR (nums 0 []), 0⟩ (retIs 0 (.bool v) []) =
  (br (n == (200 : Int))
   ((v = true) ∧
   True)
   (br (n == (203 : Int))
    ((v = true) ∧
    True)
    (br (n == (204 : Int))
     ((v = true) ∧
     True)
     (br (n == (300 : Int))
      ((v = true) ∧
      True)
      (br (n == (301 : Int))
       ((v = true) ∧
       True)
       (br (n == (308 : Int))
        ((v = true) ∧
        True)
        (br (n == (404 : Int))
         ((v = true) ∧
         True)
         (br (n == (405 : Int))
          ((v = true) ∧
          True)
          (br (n == (410 : Int))
           ((v = true) ∧
           True)
           (br (n == (414 : Int))
            ((v = true) ∧
            True)
            (br (n == (501 : Int))
             ((v = true) ∧
             True)
             ((v = false) ∧
             True)))))))))))) := by kernel_rfl
theorem May_vc (m a p x : List UInt8) (k : Int) (l : List Fl) (st : Int) (q : List Fl) (k2 : Int) (v : Bool) : mcall EMy noM 60 10 [.agg ⟨[.string (bs m), .string (bs a), .string (bs p), .string (bs x), .slice (some ⟨0, 0, none⟩) l.length 2, .int .i64 k]⟩, .agg ⟨[.int .i64 st, .slice (some ⟨1, 0, none⟩) q.length 2, .int .i64 k2]⟩] ⟨mkR (nums 0 [gRo enF l, gRo enF q]), 2⟩ (retIs 2 (.bool v) [gRo enF l, gRo enF q]) =
  (br (!strEq (bs m) (ByteArray.mk #[(71 : UInt8), (69 : UInt8), (84 : UInt8)]))
   ((v = false) ∧
   ((Eq (α := List Value) (gC enF l) (gC enF l)) ∧
   ((Plain (gC enF l)) ∧
   ((Eq (α := List Value) (gC enF q) (gC enF q)) ∧
   ((Plain (gC enF q)) ∧
   True)))))
   (br (decide (st < (200 : Int)))
    ((v = false) ∧
    ((Eq (α := List Value) (gC enF l) (gC enF l)) ∧
    ((Plain (gC enF l)) ∧
    ((Eq (α := List Value) (gC enF q) (gC enF q)) ∧
    ((Plain (gC enF q)) ∧
    True)))))
    (br (st == (206 : Int))
     ((v = false) ∧
     ((Eq (α := List Value) (gC enF l) (gC enF l)) ∧
     ((Plain (gC enF l)) ∧
     ((Eq (α := List Value) (gC enF q) (gC enF q)) ∧
     ((Plain (gC enF q)) ∧
     True)))))
     (br (st == (304 : Int))
      ((v = false) ∧
      ((Eq (α := List Value) (gC enF l) (gC enF l)) ∧
      ((Plain (gC enF l)) ∧
      ((Eq (α := List Value) (gC enF q) (gC enF q)) ∧
      ((Plain (gC enF q)) ∧
      True)))))
      ((((((0 : Nat) + List.length l * (2 : Nat) ≤ List.length (gC enF l) ∧ Plain (List.take (List.length l * (2 : Nat)) (List.drop (0 : Nat) (gC enF l)))) ∧ True) ∧ (True ∧ (IsF (Row.mk (List.take (List.length l * (2 : Nat)) (List.drop (0 : Nat) (gC enF l))) true (Ob.cells true)) (List.length l) ∧ (List.length l ≤ (9223372036854775807 : Nat) ∧ ctB (Row.mk (List.take (List.length l * (2 : Nat)) (List.drop (0 : Nat) (gC enF l))) true (Ob.cells true)) ≤ (16777000 : Nat)))))) ∧
      ((((((0 : Nat) + List.length q * (2 : Nat) ≤ List.length (gC enF q) ∧ Plain (List.take (List.length q * (2 : Nat)) (List.drop (0 : Nat) (gC enF q)))) ∧ True) ∧ (True ∧ (IsF (Row.mk (List.take (List.length q * (2 : Nat)) (List.drop (0 : Nat) (gC enF q))) true (Ob.cells true)) (List.length q) ∧ (List.length q ≤ (9223372036854775807 : Nat) ∧ ctB (Row.mk (List.take (List.length q * (2 : Nat)) (List.drop (0 : Nat) (gC enF q))) true (Ob.cells true)) ≤ (16777000 : Nat)))))) ∧
      ((Value.slice (some (Addr.mk (0 : Nat) (0 : Nat) none)) (List.length l) (2 : Nat) = Value.slice (some (Addr.mk (0 : Nat) (0 : Nat) none)) (List.length l) (2 : Nat)) ∧
      ((Value.slice (some (Addr.mk (1 : Nat) (0 : Nat) none)) (List.length q) (2 : Nat) = Value.slice (some (Addr.mk (1 : Nat) (0 : Nat) none)) (List.length q) (2 : Nat)) ∧
      ((Value.slice (some (Addr.mk (1 : Nat) (0 : Nat) none)) (List.length q) (2 : Nat) = Value.slice (some (Addr.mk (1 : Nat) (0 : Nat) none)) (List.length q) (2 : Nat)) ∧
      (br ((ctR (Row.mk (List.take (List.length l * (2 : Nat)) (List.drop (0 : Nat) (gC enF l))) true (Ob.cells true))).1)
       ((v = false) ∧
       ((Eq (α := List Value) (gC enF l) (gC enF l)) ∧
       ((Plain (gC enF l)) ∧
       ((Eq (α := List Value) (gC enF q) (gC enF q)) ∧
       ((Plain (gC enF q)) ∧
       True)))))
       (br ((ctR (Row.mk (List.take (List.length q * (2 : Nat)) (List.drop (0 : Nat) (gC enF q))) true (Ob.cells true))).1)
        ((v = false) ∧
        ((Eq (α := List Value) (gC enF l) (gC enF l)) ∧
        ((Plain (gC enF l)) ∧
        ((Eq (α := List Value) (gC enF q) (gC enF q)) ∧
        ((Plain (gC enF q)) ∧
        True)))))
        (br ((ctR (Row.mk (List.take (List.length q * (2 : Nat)) (List.drop (0 : Nat) (gC enF q))) true (Ob.cells true))).3)
         ((v = false) ∧
         ((Eq (α := List Value) (gC enF l) (gC enF l)) ∧
         ((Plain (gC enF l)) ∧
         ((Eq (α := List Value) (gC enF q) (gC enF q)) ∧
         ((Plain (gC enF q)) ∧
         True)))))
         ((((((0 : Nat) + List.length q * (2 : Nat) ≤ List.length (gC enF q) ∧ Plain (List.take (List.length q * (2 : Nat)) (List.drop (0 : Nat) (gC enF q)))) ∧ True) ∧ ((Plain (stC (Row.mk (List.take (List.length q * (2 : Nat)) (List.drop (0 : Nat) (gC enF q))) true (Ob.cells true))) ∧ True) ∧ (IsF (Row.mk (List.take (List.length q * (2 : Nat)) (List.drop (0 : Nat) (gC enF q))) true (Ob.cells true)) (List.length q) ∧ (List.length q ≤ (9223372036854775807 : Nat) ∧ vaB (Row.mk (List.take (List.length q * (2 : Nat)) (List.drop (0 : Nat) (gC enF q))) true (Ob.cells true)) ≤ (16777000 : Nat)))))) ∧
         (br (stB (Row.mk (List.take (List.length q * (2 : Nat)) (List.drop (0 : Nat) (gC enF q))) true (Ob.cells true)))
          ((v = false) ∧
          ((Eq (α := List Value) (gC enF l) (gC enF l)) ∧
          ((Plain (gC enF l)) ∧
          ((Eq (α := List Value) (gC enF q) (gC enF q)) ∧
          ((Plain (gC enF q)) ∧
          True)))))
          ((((((0 : Nat) + List.length l * (2 : Nat) ≤ List.length (gC enF l) ∧ Plain (List.take (List.length l * (2 : Nat)) (List.drop (0 : Nat) (gC enF l)))) ∧ (True ∧ True)) ∧ (True ∧ (IsF (Row.mk (List.take (List.length l * (2 : Nat)) (List.drop (0 : Nat) (gC enF l))) true (Ob.cells true)) (List.length l) ∧ (List.length l ≤ (9223372036854775807 : Nat) ∧ alB (Row.mk (List.take (List.length l * (2 : Nat)) (List.drop (0 : Nat) (gC enF l))) true (Ob.cells true)) (ByteArray.mk #[(97 : UInt8), (117 : UInt8), (116 : UInt8), (104 : UInt8), (111 : UInt8), (114 : UInt8), (105 : UInt8), (122 : UInt8), (97 : UInt8), (116 : UInt8), (105 : UInt8), (111 : UInt8), (110 : UInt8)]) ≤ (16777216 : Nat)))))) ∧
          (br (hasB (Row.mk (List.take (List.length l * (2 : Nat)) (List.drop (0 : Nat) (gC enF l))) true (Ob.cells true)) (ByteArray.mk #[(97 : UInt8), (117 : UInt8), (116 : UInt8), (104 : UInt8), (111 : UInt8), (114 : UInt8), (105 : UInt8), (122 : UInt8), (97 : UInt8), (116 : UInt8), (105 : UInt8), (111 : UInt8), (110 : UInt8)]))
           (br (!(ctR (Row.mk (List.take (List.length q * (2 : Nat)) (List.drop (0 : Nat) (gC enF q))) true (Ob.cells true))).5)
            (br (!(ctR (Row.mk (List.take (List.length q * (2 : Nat)) (List.drop (0 : Nat) (gC enF q))) true (Ob.cells true))).4)
             (br (decide ((ctR (Row.mk (List.take (List.length q * (2 : Nat)) (List.drop (0 : Nat) (gC enF q))) true (Ob.cells true))).8 < (0 : Int)))
              ((v = false) ∧
              ((Eq (α := List Value) (gC enF l) (gC enF l)) ∧
              ((Plain (gC enF l)) ∧
              ((Eq (α := List Value) (gC enF q) (gC enF q)) ∧
              ((Plain (gC enF q)) ∧
              True)))))
              (br ((ctR (Row.mk (List.take (List.length q * (2 : Nat)) (List.drop (0 : Nat) (gC enF q))) true (Ob.cells true))).4)
               ((v = true) ∧
               ((Eq (α := List Value) (gC enF l) (gC enF l)) ∧
               ((Plain (gC enF l)) ∧
               ((Eq (α := List Value) (gC enF q) (gC enF q)) ∧
               ((Plain (gC enF q)) ∧
               True)))))
               (br (decide ((ctR (Row.mk (List.take (List.length q * (2 : Nat)) (List.drop (0 : Nat) (gC enF q))) true (Ob.cells true))).8 ≥ (0 : Int)))
                ((v = true) ∧
                ((Eq (α := List Value) (gC enF l) (gC enF l)) ∧
                ((Plain (gC enF l)) ∧
                ((Eq (α := List Value) (gC enF q) (gC enF q)) ∧
                ((Plain (gC enF q)) ∧
                True)))))
                (br (decide ((ctR (Row.mk (List.take (List.length q * (2 : Nat)) (List.drop (0 : Nat) (gC enF q))) true (Ob.cells true))).7 ≥ (0 : Int)))
                 ((v = true) ∧
                 ((Eq (α := List Value) (gC enF l) (gC enF l)) ∧
                 ((Plain (gC enF l)) ∧
                 ((Eq (α := List Value) (gC enF q) (gC enF q)) ∧
                 ((Plain (gC enF q)) ∧
                 True)))))
                 ((((((0 : Nat) + List.length q * (2 : Nat) ≤ List.length (gC enF q) ∧ Plain (List.take (List.length q * (2 : Nat)) (List.drop (0 : Nat) (gC enF q)))) ∧ (True ∧ True)) ∧ (True ∧ (IsF (Row.mk (List.take (List.length q * (2 : Nat)) (List.drop (0 : Nat) (gC enF q))) true (Ob.cells true)) (List.length q) ∧ (List.length q ≤ (9223372036854775807 : Nat) ∧ alB (Row.mk (List.take (List.length q * (2 : Nat)) (List.drop (0 : Nat) (gC enF q))) true (Ob.cells true)) (ByteArray.mk #[(101 : UInt8), (120 : UInt8), (112 : UInt8), (105 : UInt8), (114 : UInt8), (101 : UInt8), (115 : UInt8)]) ≤ (16777216 : Nat)))))) ∧
                 (br (hasB (Row.mk (List.take (List.length q * (2 : Nat)) (List.drop (0 : Nat) (gC enF q))) true (Ob.cells true)) (ByteArray.mk #[(101 : UInt8), (120 : UInt8), (112 : UInt8), (105 : UInt8), (114 : UInt8), (101 : UInt8), (115 : UInt8)]))
                  ((v = true) ∧
                  ((Eq (α := List Value) (gC enF l) (gC enF l)) ∧
                  ((Plain (gC enF l)) ∧
                  ((Eq (α := List Value) (gC enF q) (gC enF q)) ∧
                  ((Plain (gC enF q)) ∧
                  True)))))
                  ((((True ∧ True) ∧ (True ∧ True))) ∧
                  ((v = plB st) ∧
                  ((Eq (α := List Value) (gC enF l) (gC enF l)) ∧
                  ((Plain (gC enF l)) ∧
                  ((Eq (α := List Value) (gC enF q) (gC enF q)) ∧
                  ((Plain (gC enF q)) ∧
                  True))))))))))))
             (br ((ctR (Row.mk (List.take (List.length q * (2 : Nat)) (List.drop (0 : Nat) (gC enF q))) true (Ob.cells true))).4)
              ((v = true) ∧
              ((Eq (α := List Value) (gC enF l) (gC enF l)) ∧
              ((Plain (gC enF l)) ∧
              ((Eq (α := List Value) (gC enF q) (gC enF q)) ∧
              ((Plain (gC enF q)) ∧
              True)))))
              (br (decide ((ctR (Row.mk (List.take (List.length q * (2 : Nat)) (List.drop (0 : Nat) (gC enF q))) true (Ob.cells true))).8 ≥ (0 : Int)))
               ((v = true) ∧
               ((Eq (α := List Value) (gC enF l) (gC enF l)) ∧
               ((Plain (gC enF l)) ∧
               ((Eq (α := List Value) (gC enF q) (gC enF q)) ∧
               ((Plain (gC enF q)) ∧
               True)))))
               (br (decide ((ctR (Row.mk (List.take (List.length q * (2 : Nat)) (List.drop (0 : Nat) (gC enF q))) true (Ob.cells true))).7 ≥ (0 : Int)))
                ((v = true) ∧
                ((Eq (α := List Value) (gC enF l) (gC enF l)) ∧
                ((Plain (gC enF l)) ∧
                ((Eq (α := List Value) (gC enF q) (gC enF q)) ∧
                ((Plain (gC enF q)) ∧
                True)))))
                ((((((0 : Nat) + List.length q * (2 : Nat) ≤ List.length (gC enF q) ∧ Plain (List.take (List.length q * (2 : Nat)) (List.drop (0 : Nat) (gC enF q)))) ∧ (True ∧ True)) ∧ (True ∧ (IsF (Row.mk (List.take (List.length q * (2 : Nat)) (List.drop (0 : Nat) (gC enF q))) true (Ob.cells true)) (List.length q) ∧ (List.length q ≤ (9223372036854775807 : Nat) ∧ alB (Row.mk (List.take (List.length q * (2 : Nat)) (List.drop (0 : Nat) (gC enF q))) true (Ob.cells true)) (ByteArray.mk #[(101 : UInt8), (120 : UInt8), (112 : UInt8), (105 : UInt8), (114 : UInt8), (101 : UInt8), (115 : UInt8)]) ≤ (16777216 : Nat)))))) ∧
                (br (hasB (Row.mk (List.take (List.length q * (2 : Nat)) (List.drop (0 : Nat) (gC enF q))) true (Ob.cells true)) (ByteArray.mk #[(101 : UInt8), (120 : UInt8), (112 : UInt8), (105 : UInt8), (114 : UInt8), (101 : UInt8), (115 : UInt8)]))
                 ((v = true) ∧
                 ((Eq (α := List Value) (gC enF l) (gC enF l)) ∧
                 ((Plain (gC enF l)) ∧
                 ((Eq (α := List Value) (gC enF q) (gC enF q)) ∧
                 ((Plain (gC enF q)) ∧
                 True)))))
                 ((((True ∧ True) ∧ (True ∧ True))) ∧
                 ((v = plB st) ∧
                 ((Eq (α := List Value) (gC enF l) (gC enF l)) ∧
                 ((Plain (gC enF l)) ∧
                 ((Eq (α := List Value) (gC enF q) (gC enF q)) ∧
                 ((Plain (gC enF q)) ∧
                 True))))))))))))
            (br ((ctR (Row.mk (List.take (List.length q * (2 : Nat)) (List.drop (0 : Nat) (gC enF q))) true (Ob.cells true))).4)
             ((v = true) ∧
             ((Eq (α := List Value) (gC enF l) (gC enF l)) ∧
             ((Plain (gC enF l)) ∧
             ((Eq (α := List Value) (gC enF q) (gC enF q)) ∧
             ((Plain (gC enF q)) ∧
             True)))))
             (br (decide ((ctR (Row.mk (List.take (List.length q * (2 : Nat)) (List.drop (0 : Nat) (gC enF q))) true (Ob.cells true))).8 ≥ (0 : Int)))
              ((v = true) ∧
              ((Eq (α := List Value) (gC enF l) (gC enF l)) ∧
              ((Plain (gC enF l)) ∧
              ((Eq (α := List Value) (gC enF q) (gC enF q)) ∧
              ((Plain (gC enF q)) ∧
              True)))))
              (br (decide ((ctR (Row.mk (List.take (List.length q * (2 : Nat)) (List.drop (0 : Nat) (gC enF q))) true (Ob.cells true))).7 ≥ (0 : Int)))
               ((v = true) ∧
               ((Eq (α := List Value) (gC enF l) (gC enF l)) ∧
               ((Plain (gC enF l)) ∧
               ((Eq (α := List Value) (gC enF q) (gC enF q)) ∧
               ((Plain (gC enF q)) ∧
               True)))))
               ((((((0 : Nat) + List.length q * (2 : Nat) ≤ List.length (gC enF q) ∧ Plain (List.take (List.length q * (2 : Nat)) (List.drop (0 : Nat) (gC enF q)))) ∧ (True ∧ True)) ∧ (True ∧ (IsF (Row.mk (List.take (List.length q * (2 : Nat)) (List.drop (0 : Nat) (gC enF q))) true (Ob.cells true)) (List.length q) ∧ (List.length q ≤ (9223372036854775807 : Nat) ∧ alB (Row.mk (List.take (List.length q * (2 : Nat)) (List.drop (0 : Nat) (gC enF q))) true (Ob.cells true)) (ByteArray.mk #[(101 : UInt8), (120 : UInt8), (112 : UInt8), (105 : UInt8), (114 : UInt8), (101 : UInt8), (115 : UInt8)]) ≤ (16777216 : Nat)))))) ∧
               (br (hasB (Row.mk (List.take (List.length q * (2 : Nat)) (List.drop (0 : Nat) (gC enF q))) true (Ob.cells true)) (ByteArray.mk #[(101 : UInt8), (120 : UInt8), (112 : UInt8), (105 : UInt8), (114 : UInt8), (101 : UInt8), (115 : UInt8)]))
                ((v = true) ∧
                ((Eq (α := List Value) (gC enF l) (gC enF l)) ∧
                ((Plain (gC enF l)) ∧
                ((Eq (α := List Value) (gC enF q) (gC enF q)) ∧
                ((Plain (gC enF q)) ∧
                True)))))
                ((((True ∧ True) ∧ (True ∧ True))) ∧
                ((v = plB st) ∧
                ((Eq (α := List Value) (gC enF l) (gC enF l)) ∧
                ((Plain (gC enF l)) ∧
                ((Eq (α := List Value) (gC enF q) (gC enF q)) ∧
                ((Plain (gC enF q)) ∧
                True))))))))))))
           (br ((ctR (Row.mk (List.take (List.length q * (2 : Nat)) (List.drop (0 : Nat) (gC enF q))) true (Ob.cells true))).4)
            ((v = true) ∧
            ((Eq (α := List Value) (gC enF l) (gC enF l)) ∧
            ((Plain (gC enF l)) ∧
            ((Eq (α := List Value) (gC enF q) (gC enF q)) ∧
            ((Plain (gC enF q)) ∧
            True)))))
            (br (decide ((ctR (Row.mk (List.take (List.length q * (2 : Nat)) (List.drop (0 : Nat) (gC enF q))) true (Ob.cells true))).8 ≥ (0 : Int)))
             ((v = true) ∧
             ((Eq (α := List Value) (gC enF l) (gC enF l)) ∧
             ((Plain (gC enF l)) ∧
             ((Eq (α := List Value) (gC enF q) (gC enF q)) ∧
             ((Plain (gC enF q)) ∧
             True)))))
             (br (decide ((ctR (Row.mk (List.take (List.length q * (2 : Nat)) (List.drop (0 : Nat) (gC enF q))) true (Ob.cells true))).7 ≥ (0 : Int)))
              ((v = true) ∧
              ((Eq (α := List Value) (gC enF l) (gC enF l)) ∧
              ((Plain (gC enF l)) ∧
              ((Eq (α := List Value) (gC enF q) (gC enF q)) ∧
              ((Plain (gC enF q)) ∧
              True)))))
              ((((((0 : Nat) + List.length q * (2 : Nat) ≤ List.length (gC enF q) ∧ Plain (List.take (List.length q * (2 : Nat)) (List.drop (0 : Nat) (gC enF q)))) ∧ (True ∧ True)) ∧ (True ∧ (IsF (Row.mk (List.take (List.length q * (2 : Nat)) (List.drop (0 : Nat) (gC enF q))) true (Ob.cells true)) (List.length q) ∧ (List.length q ≤ (9223372036854775807 : Nat) ∧ alB (Row.mk (List.take (List.length q * (2 : Nat)) (List.drop (0 : Nat) (gC enF q))) true (Ob.cells true)) (ByteArray.mk #[(101 : UInt8), (120 : UInt8), (112 : UInt8), (105 : UInt8), (114 : UInt8), (101 : UInt8), (115 : UInt8)]) ≤ (16777216 : Nat)))))) ∧
              (br (hasB (Row.mk (List.take (List.length q * (2 : Nat)) (List.drop (0 : Nat) (gC enF q))) true (Ob.cells true)) (ByteArray.mk #[(101 : UInt8), (120 : UInt8), (112 : UInt8), (105 : UInt8), (114 : UInt8), (101 : UInt8), (115 : UInt8)]))
               ((v = true) ∧
               ((Eq (α := List Value) (gC enF l) (gC enF l)) ∧
               ((Plain (gC enF l)) ∧
               ((Eq (α := List Value) (gC enF q) (gC enF q)) ∧
               ((Plain (gC enF q)) ∧
               True)))))
               ((((True ∧ True) ∧ (True ∧ True))) ∧
               ((v = plB st) ∧
               ((Eq (α := List Value) (gC enF l) (gC enF l)) ∧
               ((Plain (gC enF l)) ∧
               ((Eq (α := List Value) (gC enF q) (gC enF q)) ∧
               ((Plain (gC enF q)) ∧
               True))))))))))))))))))))))))))) := by kernel_rfl
theorem has_con (l : List Fl) (s : List UInt8) (hl : l.length ≤ maxLen) (h : (allL l s).length ≤ 16777216) : Con Try.prog 20 [.slice (some ⟨0, 0, none⟩) l.length 2, .string (bs s)] [gRo enF l] (.bool (decide (0 < allN s l))) [gRo enF l] := by
  refine con_vc (E := EKs) mixed (calls_envC cKs_ok) (lok_envC _ _ _) (M := noM) lm_none (has_vc l s _) ?_
  have r1 : ∀ b o, alN ⟨gC enF l, b, o⟩ (bs s) = (allN s l : Nat) := fun b o => by unfold alN; simp only; rw [decF_gC, L_bs]
  have r2 : ∀ b o, alB ⟨gC enF l, b, o⟩ (bs s) = (allL l s).length := fun b o => by unfold alB; simp only; rw [decF_gC, L_bs]
  simp only [ofNat_eq, toNat_cast, Nat.zero_add, Nat.add_zero, Nat.mul_one, List.drop_zero, bCells_len, bCells_drop, bCells_take, bCells_app, bCells_one, bCells_plain, List.length_replicate, List.length_append, List.length_take, List.length_drop, List.take_length, and_true, true_and, and_self, decide_true, List.length_nil, List.length_cons, Nat.sub_zero, dB_mk, dB_ro, List.take_zero, fPl, fLen, fTake, r1, r2]
  refine ⟨⟨Nat.le_refl _, isF_mk _ _ rfl, hl, h⟩, ?_⟩
  simp
theorem plain_con (n : Int) : Con Try.prog 17 [.int .i64 n] [] (.bool (plB n)) [] := by
  refine con_vc (E := E0) mixed (calls_envN _) (lok_envN _) (M := noM) lm_none (plain_vc n _) ?_
  unfold plB
  repeat' refine br_if (fun h => ?_) (fun h => ?_)
  all_goals simp_all
theorem cMy_ok : ∀ f a rows p v news, cMy f a rows = some (p, v, news) → p → Con Try.prog f a rows v (rows ++ news) := by
  intro f a rows p v news h hp
  have e : ∀ l, decF (gRo enF l).cells = l := fun l => decF_gC l
  unfold cMy at h
  split at h <;> simp only [Option.some.injEq, Prod.mk.injEq, reduceCtorEq] at h <;> obtain ⟨rfl, rfl, rfl⟩ := h
  · obtain ⟨⟨l, rfl, rfl⟩, h1, h2⟩ := hp
    simp only [ctB, ctR, e, List.append_nil] at h2 ⊢
    exact Co_con l h1 h2
  · obtain ⟨⟨l, rfl, rfl⟩, h1, h2⟩ := hp
    simp only [vaB, stN, stB, stC, e] at h2 ⊢
    exact Ks_con l h1 h2
  · obtain ⟨⟨l, rfl, rfl⟩, h1, h2⟩ := hp
    simp only [hasB, alB, e, List.append_nil] at h2 ⊢
    exact has_con l (L _) h1 h2
  · exact plain_con _
theorem May_con (m a p x : List UInt8) (k : Int) (l : List Fl) (st : Int) (q : List Fl) (k2 : Int) (hl : l.length ≤ maxLen) (hq : q.length ≤ maxLen) (bl : BigL l) (bq : BigL q) : Con Try.prog 10 [.agg ⟨[.string (bs m), .string (bs a), .string (bs p), .string (bs x), .slice (some ⟨0, 0, none⟩) l.length 2, .int .i64 k]⟩, .agg ⟨[.int .i64 st, .slice (some ⟨1, 0, none⟩) q.length 2, .int .i64 k2]⟩] [gRo enF l, gRo enF q] (.bool (mayB m l st q)) [gRo enF l, gRo enF q] := by
  refine con_vc (E := EMy) mixed (calls_envC cMy_ok) (lok_envC _ _ _) (M := noM) lm_none (May_vc m a p x k l st q k2 _) ?_
  have hm : maxLen = 9223372036854775807 := by unfold maxLen; rfl
  have e1 : (⟨#[71, 69, 84]⟩ : ByteArray) = bs sGET := rfl
  have e2 : (⟨#[97, 117, 116, 104, 111, 114, 105, 122, 97, 116, 105, 111, 110]⟩ : ByteArray) = bs sAuth := rfl
  have e3 : (⟨#[101, 120, 112, 105, 114, 101, 115]⟩ : ByteArray) = bs sExp := rfl
  have r2 : ∀ l s b o, alB ⟨gC enF l, b, o⟩ (bs s) = (allL l s).length := fun l s b o => by unfold alB; simp only; rw [decF_gC, L_bs]
  have r5 : ∀ l b o, ctR ⟨gC enF l, b, o⟩ = ctlL l := fun l b o => by unfold ctR; simp only; rw [decF_gC]
  have r6 : ∀ l b o, ctB ⟨gC enF l, b, o⟩ = (allL l sCC).length := fun l b o => by unfold ctB; simp only; rw [decF_gC]
  have r7 : ∀ l b o, vaB ⟨gC enF l, b, o⟩ = (allL l sVary).length := fun l b o => by unfold vaB; simp only; rw [decF_gC]
  have r8 : ∀ l b o, stB ⟨gC enF l, b, o⟩ = (starL l).isNone := fun l b o => by unfold stB; simp only; rw [decF_gC]
  have r9 : ∀ l s b o, hasB ⟨gC enF l, b, o⟩ (bs s) = decide (0 < allN s l) := fun l s b o => by unfold hasB; simp only; rw [decF_gC, L_bs]
  simp only [ofNat_eq, toNat_cast, Nat.zero_add, Nat.add_zero, Nat.mul_one, List.drop_zero, bCells_len, bCells_drop, bCells_take, bCells_app, bCells_one, bCells_plain, List.length_replicate, List.length_append, List.length_take, List.length_drop, List.take_length, and_true, true_and, and_self, decide_true, List.length_nil, List.length_cons, Nat.sub_zero, dB_mk, dB_ro, List.take_zero, fPl, fLen, fTake, e1, e2, e3, r2, r5, r6, r7, r8, r9, strEq_bs]
  have b1 := bl sCC; have b2 := bq sCC; have b3 := bq sVary; have b4 : (allL l sAuth).length ≤ 16777216 := by have := bl sAuth; omega
  have b5 : (allL q sExp).length ≤ 16777216 := by have := bq sExp; omega
  have i1 : IsF ⟨gC enF l, true, .cells true⟩ l.length := isF_mk _ _ rfl
  have i2 : IsF ⟨gC enF q, true, .cells true⟩ q.length := isF_mk _ _ rfl
  have hl' : l.length ≤ 9223372036854775807 := by omega
  have hq' : q.length ≤ 9223372036854775807 := by omega
  have hP : Plain (stC ⟨gC enF q, true, .cells true⟩) := gC_plain enS_p _
  simp only [i1, i2, b1, b2, b3, b4, b5, hl', hq', hP, Nat.le_refl, true_and, and_true]
  clear r2 r5 r6 r7 r8 r9 bl bq e1 e2 e3 hm hl hq
  unfold mayB mayC
  repeat' refine br_intro (fun _ => ?_) (fun _ => ?_)
  all_goals simp_all
  all_goals omega
end Go.Proofs.Ytjodnailnpnpnaa.tk
