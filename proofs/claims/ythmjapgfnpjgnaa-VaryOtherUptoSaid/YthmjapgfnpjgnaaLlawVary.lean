/- The laws: any request's key, any entry and request; an entry and its own request. -/
import Derived.Test.YthmjapgfnpjgnaaSz9
import Derived.Test.YthmjapgfnpjgnaaRows
import Derived.Test.YthmjapgfnpjgnaaLvrMatch
import Derived.Test.YthmjapgfnpjgnaaLrtMatch
import Derived.Test.YthmjapgfnpjgnaaLlgtK
set_option linter.unusedSimpArgs false
set_option linter.unusedVariables false
namespace Go.Proofs.Ythmjapgfnpjgnaa.tk
open Go Go.Ev Go.Sy Go.RowKit Go.Proofs.Ythmjapgfnpjgnaa.gl
def BigV1 (r : Row) : Prop := BigV (decF r.cells)
noncomputable def cVr : FuncId → List Value → List Row → Option (Prop × Value × List Row)
  | 11, [.agg ⟨[.string em, .string es, .string ea, .string ep, .slice (some ⟨0, 0, none⟩) n0 2, .int .i64 ek, .int .i64 st, .slice (some ⟨1, 0, none⟩) n1 2, .int .i64 k2, .string body, .int .i64 asked, .int .i64 came]⟩, .agg ⟨[.string qm, .string qs, .string qa, .string qp, .slice (some ⟨2, 0, none⟩) n2 2, .int .i64 qk]⟩], [r0, r1, r2] => some (IsF r0 n0 ∧ IsF r1 n1 ∧ IsF r2 n2 ∧ n0 ≤ maxLen ∧ n1 ≤ maxLen ∧ n2 ≤ maxLen ∧ BigV1 r0 ∧ BigV1 r1 ∧ BigV1 r2, .bool (matR r0 r1 r2), [])
  | 15, [.agg ⟨[.string em, .string es, .string ea, .string ep, .slice (some ⟨0, 0, none⟩) n0 2, .int .i64 ek, .int .i64 st, .slice (some ⟨1, 0, none⟩) n1 2, .int .i64 k2, .string body, .int .i64 asked, .int .i64 came]⟩, .agg ⟨[.string qm, .string qs, .string qa, .string qp, .slice (some ⟨2, 0, none⟩) n2 2, .int .i64 qk]⟩], [r0, r1, r2] => some (IsF r0 n0 ∧ IsF r1 n1 ∧ IsF r2 n2 ∧ n0 ≤ maxLen ∧ n1 ≤ maxLen ∧ n2 ≤ maxLen ∧ BigV1 r0 ∧ BigV1 r1 ∧ BigV1 r2, .bool (matR r0 r1 r2), [])
  | 16, [.slice (some ⟨0, 0, none⟩) n 2], [r0] => some (IsF r0 n ∧ n ≤ maxLen ∧ vaB r0 ≤ 16777000, .tuple #[.slice (some ⟨1, 0, none⟩) (stN r0) 1, .bool (stB r0)], [⟨stC r0, false, .cells true⟩])
  | 17, [.slice (some ⟨0, 0, none⟩) n 2, .string s], [r0] => some (IsF r0 n ∧ n ≤ maxLen ∧ alB r0 s ≤ 16777216, .tuple #[.string (alV r0 s), .int .i64 (alN r0 s)], [])
  | 14, [.slice (some ⟨0, 0, none⟩) n 2], [r0] => some (IsF r0 n ∧ n ≤ 1048576 ∧ ShR r0, .bool (lgR r0), [])
  | 3, [], [] => some (True, .bool true, [])
  | _, _, _ => none
def kVr (f : FuncId) : Bool := Nat.beq f 11 || Nat.beq f 15 || Nat.beq f 16 || Nat.beq f 17 || Nat.beq f 14 || Nat.beq f 3
noncomputable abbrev EVr : Env := envC Try.prog cVr kVr
theorem Vt_vc (x : EnX) (y : RqX) (e r q : List Fl) : mcall EVr noM 60 4 [.agg ⟨enCells x 0 e.length 1 r.length⟩, .agg ⟨rqCells y 2 q.length⟩] ⟨mkR (nums 0 [gRo enF e, gRo enF r, gRo enF q]), 3⟩ (retIs 3 (.bool true) [gRo enF e, gRo enF r, gRo enF q]) =
  ((((((0 : Nat) + List.length e * (2 : Nat) ≤ List.length (gC enF e) ∧ Plain (List.take (List.length e * (2 : Nat)) (List.drop (0 : Nat) (gC enF e)))) ∧ True) ∧ (True ∧ (IsF (Row.mk (List.take (List.length e * (2 : Nat)) (List.drop (0 : Nat) (gC enF e))) true (Ob.cells true)) (List.length e) ∧ (List.length e ≤ (1048576 : Nat) ∧ ShR (Row.mk (List.take (List.length e * (2 : Nat)) (List.drop (0 : Nat) (gC enF e))) true (Ob.cells true))))))) ∧
  (br (lgR (Row.mk (List.take (List.length e * (2 : Nat)) (List.drop (0 : Nat) (gC enF e))) true (Ob.cells true)))
   ((((((0 : Nat) + List.length r * (2 : Nat) ≤ List.length (gC enF r) ∧ Plain (List.take (List.length r * (2 : Nat)) (List.drop (0 : Nat) (gC enF r)))) ∧ True) ∧ (True ∧ (IsF (Row.mk (List.take (List.length r * (2 : Nat)) (List.drop (0 : Nat) (gC enF r))) true (Ob.cells true)) (List.length r) ∧ (List.length r ≤ (1048576 : Nat) ∧ ShR (Row.mk (List.take (List.length r * (2 : Nat)) (List.drop (0 : Nat) (gC enF r))) true (Ob.cells true))))))) ∧
   (br (lgR (Row.mk (List.take (List.length r * (2 : Nat)) (List.drop (0 : Nat) (gC enF r))) true (Ob.cells true)))
    (br (!decide (Int.ofNat (List.length x.8.1.1) ≤ (2000 : Int)))
     (((True ∧ (True ∧ True))) ∧
     ((true = true) ∧
     ((Eq (α := List Value) (gC enF e) (gC enF e)) ∧
     ((Plain (gC enF e)) ∧
     ((Eq (α := List Value) (gC enF r) (gC enF r)) ∧
     ((Plain (gC enF r)) ∧
     ((Eq (α := List Value) (gC enF q) (gC enF q)) ∧
     ((Plain (gC enF q)) ∧
     True))))))))
     ((((((0 : Nat) + List.length q * (2 : Nat) ≤ List.length (gC enF q) ∧ Plain (List.take (List.length q * (2 : Nat)) (List.drop (0 : Nat) (gC enF q)))) ∧ True) ∧ (True ∧ (IsF (Row.mk (List.take (List.length q * (2 : Nat)) (List.drop (0 : Nat) (gC enF q))) true (Ob.cells true)) (List.length q) ∧ (List.length q ≤ (1048576 : Nat) ∧ ShR (Row.mk (List.take (List.length q * (2 : Nat)) (List.drop (0 : Nat) (gC enF q))) true (Ob.cells true))))))) ∧
     (br (!lgR (Row.mk (List.take (List.length q * (2 : Nat)) (List.drop (0 : Nat) (gC enF q))) true (Ob.cells true)))
      (((True ∧ (True ∧ True))) ∧
      ((true = true) ∧
      ((Eq (α := List Value) (gC enF e) (gC enF e)) ∧
      ((Plain (gC enF e)) ∧
      ((Eq (α := List Value) (gC enF r) (gC enF r)) ∧
      ((Plain (gC enF r)) ∧
      ((Eq (α := List Value) (gC enF q) (gC enF q)) ∧
      ((Plain (gC enF q)) ∧
      True))))))))
      (br (decide (List.length y.2.1.1 + (3 : Nat) ≤ (9223372036854775807 : Nat)))
       (br (decide (List.length (y.2.1.1 ++ [(58 : UInt8), (47 : UInt8), (47 : UInt8)]) + List.length y.3.1.1 ≤ (9223372036854775807 : Nat)))
        (br (decide (List.length (y.2.1.1 ++ [(58 : UInt8), (47 : UInt8), (47 : UInt8)] ++ y.3.1.1) + List.length y.4.1.1 ≤ (9223372036854775807 : Nat)))
         (br (decide (List.length y.2.1.1 + (3 : Nat) ≤ (9223372036854775807 : Nat)))
          (br (decide (List.length (y.2.1.1 ++ [(58 : UInt8), (47 : UInt8), (47 : UInt8)]) + List.length y.3.1.1 ≤ (9223372036854775807 : Nat)))
           (br (decide (List.length (y.2.1.1 ++ [(58 : UInt8), (47 : UInt8), (47 : UInt8)] ++ y.3.1.1) + List.length y.4.1.1 ≤ (9223372036854775807 : Nat)))
            (br (strEq (y.2 ++ ByteArray.mk #[(58 : UInt8), (47 : UInt8), (47 : UInt8)] ++ y.3 ++ y.4) (y.2 ++ ByteArray.mk #[(58 : UInt8), (47 : UInt8), (47 : UInt8)] ++ y.3 ++ y.4))
             (((((True ∧ (True ∧ (True ∧ (True ∧ (((0 : Nat) + List.length e * (2 : Nat) ≤ List.length (gC enF e) ∧ Plain (List.take (List.length e * (2 : Nat)) (List.drop (0 : Nat) (gC enF e)))) ∧ (True ∧ (True ∧ (((0 : Nat) + List.length r * (2 : Nat) ≤ List.length (gC enF r) ∧ Plain (List.take (List.length r * (2 : Nat)) (List.drop (0 : Nat) (gC enF r)))) ∧ (True ∧ (True ∧ (True ∧ (True ∧ True)))))))))))) ∧ ((True ∧ (True ∧ (True ∧ (True ∧ (((0 : Nat) + List.length q * (2 : Nat) ≤ List.length (gC enF q) ∧ Plain (List.take (List.length q * (2 : Nat)) (List.drop (0 : Nat) (gC enF q)))) ∧ (True ∧ True)))))) ∧ True)) ∧ (True ∧ (IsF (Row.mk (List.take (List.length e * (2 : Nat)) (List.drop (0 : Nat) (gC enF e))) true (Ob.cells true)) (List.length e) ∧ (IsF (Row.mk (List.take (List.length r * (2 : Nat)) (List.drop (0 : Nat) (gC enF r))) true (Ob.cells true)) (List.length r) ∧ (IsF (Row.mk (List.take (List.length q * (2 : Nat)) (List.drop (0 : Nat) (gC enF q))) true (Ob.cells true)) (List.length q) ∧ (List.length e ≤ (9223372036854775807 : Nat) ∧ (List.length r ≤ (9223372036854775807 : Nat) ∧ (List.length q ≤ (9223372036854775807 : Nat) ∧ (BigV1 (Row.mk (List.take (List.length e * (2 : Nat)) (List.drop (0 : Nat) (gC enF e))) true (Ob.cells true)) ∧ (BigV1 (Row.mk (List.take (List.length r * (2 : Nat)) (List.drop (0 : Nat) (gC enF r))) true (Ob.cells true)) ∧ BigV1 (Row.mk (List.take (List.length q * (2 : Nat)) (List.drop (0 : Nat) (gC enF q))) true (Ob.cells true))))))))))))) ∧
             (((((True ∧ (True ∧ (True ∧ (True ∧ (((0 : Nat) + List.length e * (2 : Nat) ≤ List.length (gC enF e) ∧ Plain (List.take (List.length e * (2 : Nat)) (List.drop (0 : Nat) (gC enF e)))) ∧ (True ∧ (True ∧ (((0 : Nat) + List.length r * (2 : Nat) ≤ List.length (gC enF r) ∧ Plain (List.take (List.length r * (2 : Nat)) (List.drop (0 : Nat) (gC enF r)))) ∧ (True ∧ (True ∧ (True ∧ (True ∧ True)))))))))))) ∧ ((True ∧ (True ∧ (True ∧ (True ∧ (((0 : Nat) + List.length q * (2 : Nat) ≤ List.length (gC enF q) ∧ Plain (List.take (List.length q * (2 : Nat)) (List.drop (0 : Nat) (gC enF q)))) ∧ (True ∧ True)))))) ∧ True)) ∧ (True ∧ (IsF (Row.mk (List.take (List.length e * (2 : Nat)) (List.drop (0 : Nat) (gC enF e))) true (Ob.cells true)) (List.length e) ∧ (IsF (Row.mk (List.take (List.length r * (2 : Nat)) (List.drop (0 : Nat) (gC enF r))) true (Ob.cells true)) (List.length r) ∧ (IsF (Row.mk (List.take (List.length q * (2 : Nat)) (List.drop (0 : Nat) (gC enF q))) true (Ob.cells true)) (List.length q) ∧ (List.length e ≤ (9223372036854775807 : Nat) ∧ (List.length r ≤ (9223372036854775807 : Nat) ∧ (List.length q ≤ (9223372036854775807 : Nat) ∧ (BigV1 (Row.mk (List.take (List.length e * (2 : Nat)) (List.drop (0 : Nat) (gC enF e))) true (Ob.cells true)) ∧ (BigV1 (Row.mk (List.take (List.length r * (2 : Nat)) (List.drop (0 : Nat) (gC enF r))) true (Ob.cells true)) ∧ BigV1 (Row.mk (List.take (List.length q * (2 : Nat)) (List.drop (0 : Nat) (gC enF q))) true (Ob.cells true))))))))))))) ∧
             (br (matR (Row.mk (List.take (List.length e * (2 : Nat)) (List.drop (0 : Nat) (gC enF e))) true (Ob.cells true)) (Row.mk (List.take (List.length r * (2 : Nat)) (List.drop (0 : Nat) (gC enF r))) true (Ob.cells true)) (Row.mk (List.take (List.length q * (2 : Nat)) (List.drop (0 : Nat) (gC enF q))) true (Ob.cells true)) == matR (Row.mk (List.take (List.length e * (2 : Nat)) (List.drop (0 : Nat) (gC enF e))) true (Ob.cells true)) (Row.mk (List.take (List.length r * (2 : Nat)) (List.drop (0 : Nat) (gC enF r))) true (Ob.cells true)) (Row.mk (List.take (List.length q * (2 : Nat)) (List.drop (0 : Nat) (gC enF q))) true (Ob.cells true)))
              (((True ∧ (True ∧ True))) ∧
              ((Value.agg (Array.mk [Value.string y.1, Value.string y.2, Value.string y.3, Value.string y.4, Value.slice (some (Addr.mk (2 : Nat) (0 : Nat) none)) (List.length q) (2 : Nat), Value.int IntKind.i64 y.5]) = Value.agg (Array.mk [Value.string y.1, Value.string y.2, Value.string y.3, Value.string y.4, Value.slice (some (Addr.mk (2 : Nat) (0 : Nat) none)) (List.length q) (2 : Nat), Value.int IntKind.i64 y.5])) ∧
              ((Value.string y.2 = Value.string y.2) ∧
              ((Value.string y.2 = Value.string y.2) ∧
              ((Value.string y.3 = Value.string y.3) ∧
              ((Value.string y.3 = Value.string y.3) ∧
              ((Value.string y.4 = Value.string y.4) ∧
              ((Value.string y.4 = Value.string y.4) ∧
              ((Value.agg (Array.mk [Value.string x.1, Value.string x.2, Value.string x.3, Value.string x.4, Value.slice (some (Addr.mk (0 : Nat) (0 : Nat) none)) (List.length e) (2 : Nat), Value.int IntKind.i64 x.5, Value.int IntKind.i64 x.6, Value.slice (some (Addr.mk (1 : Nat) (0 : Nat) none)) (List.length r) (2 : Nat), Value.int IntKind.i64 x.7, Value.string x.8, Value.int IntKind.i64 x.9, Value.int IntKind.i64 x.10]) = Value.agg (Array.mk [Value.string x.1, Value.string x.2, Value.string x.3, Value.string x.4, Value.slice (some (Addr.mk (0 : Nat) (0 : Nat) none)) (List.length e) (2 : Nat), Value.int IntKind.i64 x.5, Value.int IntKind.i64 x.6, Value.slice (some (Addr.mk (1 : Nat) (0 : Nat) none)) (List.length r) (2 : Nat), Value.int IntKind.i64 x.7, Value.string x.8, Value.int IntKind.i64 x.9, Value.int IntKind.i64 x.10])) ∧
              ((Value.agg (Array.mk [Value.string y.1, Value.string y.2, Value.string y.3, Value.string y.4, Value.slice (some (Addr.mk (2 : Nat) (0 : Nat) none)) (List.length q) (2 : Nat), Value.int IntKind.i64 y.5]) = Value.agg (Array.mk [Value.string y.1, Value.string y.2, Value.string y.3, Value.string y.4, Value.slice (some (Addr.mk (2 : Nat) (0 : Nat) none)) (List.length q) (2 : Nat), Value.int IntKind.i64 y.5])) ∧
              ((Value.agg (Array.mk [Value.string x.1, Value.string x.2, Value.string x.3, Value.string x.4, Value.slice (some (Addr.mk (0 : Nat) (0 : Nat) none)) (List.length e) (2 : Nat), Value.int IntKind.i64 x.5, Value.int IntKind.i64 x.6, Value.slice (some (Addr.mk (1 : Nat) (0 : Nat) none)) (List.length r) (2 : Nat), Value.int IntKind.i64 x.7, Value.string x.8, Value.int IntKind.i64 x.9, Value.int IntKind.i64 x.10]) = Value.agg (Array.mk [Value.string x.1, Value.string x.2, Value.string x.3, Value.string x.4, Value.slice (some (Addr.mk (0 : Nat) (0 : Nat) none)) (List.length e) (2 : Nat), Value.int IntKind.i64 x.5, Value.int IntKind.i64 x.6, Value.slice (some (Addr.mk (1 : Nat) (0 : Nat) none)) (List.length r) (2 : Nat), Value.int IntKind.i64 x.7, Value.string x.8, Value.int IntKind.i64 x.9, Value.int IntKind.i64 x.10])) ∧
              ((Value.agg (Array.mk [Value.string x.1, Value.string x.2, Value.string x.3, Value.string x.4, Value.slice (some (Addr.mk (0 : Nat) (0 : Nat) none)) (List.length e) (2 : Nat), Value.int IntKind.i64 x.5, Value.int IntKind.i64 x.6, Value.slice (some (Addr.mk (1 : Nat) (0 : Nat) none)) (List.length r) (2 : Nat), Value.int IntKind.i64 x.7, Value.string x.8, Value.int IntKind.i64 x.9, Value.int IntKind.i64 x.10]) = Value.agg (Array.mk [Value.string x.1, Value.string x.2, Value.string x.3, Value.string x.4, Value.slice (some (Addr.mk (0 : Nat) (0 : Nat) none)) (List.length e) (2 : Nat), Value.int IntKind.i64 x.5, Value.int IntKind.i64 x.6, Value.slice (some (Addr.mk (1 : Nat) (0 : Nat) none)) (List.length r) (2 : Nat), Value.int IntKind.i64 x.7, Value.string x.8, Value.int IntKind.i64 x.9, Value.int IntKind.i64 x.10])) ∧
              ((Value.agg (Array.mk [Value.string y.1, Value.string y.2, Value.string y.3, Value.string y.4, Value.slice (some (Addr.mk (2 : Nat) (0 : Nat) none)) (List.length q) (2 : Nat), Value.int IntKind.i64 y.5]) = Value.agg (Array.mk [Value.string y.1, Value.string y.2, Value.string y.3, Value.string y.4, Value.slice (some (Addr.mk (2 : Nat) (0 : Nat) none)) (List.length q) (2 : Nat), Value.int IntKind.i64 y.5])) ∧
              ((Value.agg (Array.mk [Value.string y.1, Value.string y.2, Value.string y.3, Value.string y.4, Value.slice (some (Addr.mk (2 : Nat) (0 : Nat) none)) (List.length q) (2 : Nat), Value.int IntKind.i64 y.5]) = Value.agg (Array.mk [Value.string y.1, Value.string y.2, Value.string y.3, Value.string y.4, Value.slice (some (Addr.mk (2 : Nat) (0 : Nat) none)) (List.length q) (2 : Nat), Value.int IntKind.i64 y.5])) ∧
              ((true = true) ∧
              ((Eq (α := List Value) (gC enF e) (gC enF e)) ∧
              ((Plain (gC enF e)) ∧
              ((Eq (α := List Value) (gC enF r) (gC enF r)) ∧
              ((Plain (gC enF r)) ∧
              ((Eq (α := List Value) (gC enF q) (gC enF q)) ∧
              ((Plain (gC enF q)) ∧
              True)))))))))))))))))))))
              ((Value.agg (Array.mk [Value.string y.1, Value.string y.2, Value.string y.3, Value.string y.4, Value.slice (some (Addr.mk (2 : Nat) (0 : Nat) none)) (List.length q) (2 : Nat), Value.int IntKind.i64 y.5]) = Value.agg (Array.mk [Value.string y.1, Value.string y.2, Value.string y.3, Value.string y.4, Value.slice (some (Addr.mk (2 : Nat) (0 : Nat) none)) (List.length q) (2 : Nat), Value.int IntKind.i64 y.5])) ∧
              ((Value.string y.2 = Value.string y.2) ∧
              ((Value.string y.2 = Value.string y.2) ∧
              ((Value.string y.3 = Value.string y.3) ∧
              ((Value.string y.3 = Value.string y.3) ∧
              ((Value.string y.4 = Value.string y.4) ∧
              ((Value.string y.4 = Value.string y.4) ∧
              ((Value.agg (Array.mk [Value.string x.1, Value.string x.2, Value.string x.3, Value.string x.4, Value.slice (some (Addr.mk (0 : Nat) (0 : Nat) none)) (List.length e) (2 : Nat), Value.int IntKind.i64 x.5, Value.int IntKind.i64 x.6, Value.slice (some (Addr.mk (1 : Nat) (0 : Nat) none)) (List.length r) (2 : Nat), Value.int IntKind.i64 x.7, Value.string x.8, Value.int IntKind.i64 x.9, Value.int IntKind.i64 x.10]) = Value.agg (Array.mk [Value.string x.1, Value.string x.2, Value.string x.3, Value.string x.4, Value.slice (some (Addr.mk (0 : Nat) (0 : Nat) none)) (List.length e) (2 : Nat), Value.int IntKind.i64 x.5, Value.int IntKind.i64 x.6, Value.slice (some (Addr.mk (1 : Nat) (0 : Nat) none)) (List.length r) (2 : Nat), Value.int IntKind.i64 x.7, Value.string x.8, Value.int IntKind.i64 x.9, Value.int IntKind.i64 x.10])) ∧
              ((Value.agg (Array.mk [Value.string y.1, Value.string y.2, Value.string y.3, Value.string y.4, Value.slice (some (Addr.mk (2 : Nat) (0 : Nat) none)) (List.length q) (2 : Nat), Value.int IntKind.i64 y.5]) = Value.agg (Array.mk [Value.string y.1, Value.string y.2, Value.string y.3, Value.string y.4, Value.slice (some (Addr.mk (2 : Nat) (0 : Nat) none)) (List.length q) (2 : Nat), Value.int IntKind.i64 y.5])) ∧
              ((Value.agg (Array.mk [Value.string x.1, Value.string x.2, Value.string x.3, Value.string x.4, Value.slice (some (Addr.mk (0 : Nat) (0 : Nat) none)) (List.length e) (2 : Nat), Value.int IntKind.i64 x.5, Value.int IntKind.i64 x.6, Value.slice (some (Addr.mk (1 : Nat) (0 : Nat) none)) (List.length r) (2 : Nat), Value.int IntKind.i64 x.7, Value.string x.8, Value.int IntKind.i64 x.9, Value.int IntKind.i64 x.10]) = Value.agg (Array.mk [Value.string x.1, Value.string x.2, Value.string x.3, Value.string x.4, Value.slice (some (Addr.mk (0 : Nat) (0 : Nat) none)) (List.length e) (2 : Nat), Value.int IntKind.i64 x.5, Value.int IntKind.i64 x.6, Value.slice (some (Addr.mk (1 : Nat) (0 : Nat) none)) (List.length r) (2 : Nat), Value.int IntKind.i64 x.7, Value.string x.8, Value.int IntKind.i64 x.9, Value.int IntKind.i64 x.10])) ∧
              ((Value.agg (Array.mk [Value.string x.1, Value.string x.2, Value.string x.3, Value.string x.4, Value.slice (some (Addr.mk (0 : Nat) (0 : Nat) none)) (List.length e) (2 : Nat), Value.int IntKind.i64 x.5, Value.int IntKind.i64 x.6, Value.slice (some (Addr.mk (1 : Nat) (0 : Nat) none)) (List.length r) (2 : Nat), Value.int IntKind.i64 x.7, Value.string x.8, Value.int IntKind.i64 x.9, Value.int IntKind.i64 x.10]) = Value.agg (Array.mk [Value.string x.1, Value.string x.2, Value.string x.3, Value.string x.4, Value.slice (some (Addr.mk (0 : Nat) (0 : Nat) none)) (List.length e) (2 : Nat), Value.int IntKind.i64 x.5, Value.int IntKind.i64 x.6, Value.slice (some (Addr.mk (1 : Nat) (0 : Nat) none)) (List.length r) (2 : Nat), Value.int IntKind.i64 x.7, Value.string x.8, Value.int IntKind.i64 x.9, Value.int IntKind.i64 x.10])) ∧
              ((Value.agg (Array.mk [Value.string y.1, Value.string y.2, Value.string y.3, Value.string y.4, Value.slice (some (Addr.mk (2 : Nat) (0 : Nat) none)) (List.length q) (2 : Nat), Value.int IntKind.i64 y.5]) = Value.agg (Array.mk [Value.string y.1, Value.string y.2, Value.string y.3, Value.string y.4, Value.slice (some (Addr.mk (2 : Nat) (0 : Nat) none)) (List.length q) (2 : Nat), Value.int IntKind.i64 y.5])) ∧
              ((Value.agg (Array.mk [Value.string y.1, Value.string y.2, Value.string y.3, Value.string y.4, Value.slice (some (Addr.mk (2 : Nat) (0 : Nat) none)) (List.length q) (2 : Nat), Value.int IntKind.i64 y.5]) = Value.agg (Array.mk [Value.string y.1, Value.string y.2, Value.string y.3, Value.string y.4, Value.slice (some (Addr.mk (2 : Nat) (0 : Nat) none)) (List.length q) (2 : Nat), Value.int IntKind.i64 y.5])) ∧
              ((true = false) ∧
              ((Eq (α := List Value) (gC enF e) (gC enF e)) ∧
              ((Plain (gC enF e)) ∧
              ((Eq (α := List Value) (gC enF r) (gC enF r)) ∧
              ((Plain (gC enF r)) ∧
              ((Eq (α := List Value) (gC enF q) (gC enF q)) ∧
              ((Plain (gC enF q)) ∧
              True)))))))))))))))))))))))
             ((Value.agg (Array.mk [Value.string y.1, Value.string y.2, Value.string y.3, Value.string y.4, Value.slice (some (Addr.mk (2 : Nat) (0 : Nat) none)) (List.length q) (2 : Nat), Value.int IntKind.i64 y.5]) = Value.agg (Array.mk [Value.string y.1, Value.string y.2, Value.string y.3, Value.string y.4, Value.slice (some (Addr.mk (2 : Nat) (0 : Nat) none)) (List.length q) (2 : Nat), Value.int IntKind.i64 y.5])) ∧
             ((Value.string y.2 = Value.string y.2) ∧
             ((Value.string y.2 = Value.string y.2) ∧
             ((Value.string y.3 = Value.string y.3) ∧
             ((Value.string y.3 = Value.string y.3) ∧
             ((Value.string y.4 = Value.string y.4) ∧
             ((Value.string y.4 = Value.string y.4) ∧
             ((true = false) ∧
             ((Eq (α := List Value) (gC enF e) (gC enF e)) ∧
             ((Plain (gC enF e)) ∧
             ((Eq (α := List Value) (gC enF r) (gC enF r)) ∧
             ((Plain (gC enF r)) ∧
             ((Eq (α := List Value) (gC enF q) (gC enF q)) ∧
             ((Plain (gC enF q)) ∧
             True)))))))))))))))
            False)
           False)
          False)
         False)
        False)
       False))))
    (((True ∧ (True ∧ True))) ∧
    ((true = true) ∧
    ((Eq (α := List Value) (gC enF e) (gC enF e)) ∧
    ((Plain (gC enF e)) ∧
    ((Eq (α := List Value) (gC enF r) (gC enF r)) ∧
    ((Plain (gC enF r)) ∧
    ((Eq (α := List Value) (gC enF q) (gC enF q)) ∧
    ((Plain (gC enF q)) ∧
    True))))))))))
   (((True ∧ (True ∧ True))) ∧
   ((true = true) ∧
   ((Eq (α := List Value) (gC enF e) (gC enF e)) ∧
   ((Plain (gC enF e)) ∧
   ((Eq (α := List Value) (gC enF r) (gC enF r)) ∧
   ((Plain (gC enF r)) ∧
   ((Eq (α := List Value) (gC enF q) (gC enF q)) ∧
   ((Plain (gC enF q)) ∧
   True)))))))))) := by kernel_rfl
theorem Vo_vc (x : EnX) (y : RqX) (e r q : List Fl) : mcall EVr noM 60 5 [.agg ⟨enCells x 0 e.length 1 r.length⟩, .agg ⟨rqCells y 2 q.length⟩] ⟨mkR (nums 0 [gRo enF e, gRo enF r, gRo enF q]), 3⟩ (retIs 3 (.bool true) [gRo enF e, gRo enF r, gRo enF q]) =
  ((((((0 : Nat) + List.length e * (2 : Nat) ≤ List.length (gC enF e) ∧ Plain (List.take (List.length e * (2 : Nat)) (List.drop (0 : Nat) (gC enF e)))) ∧ True) ∧ (True ∧ (IsF (Row.mk (List.take (List.length e * (2 : Nat)) (List.drop (0 : Nat) (gC enF e))) true (Ob.cells true)) (List.length e) ∧ (List.length e ≤ (1048576 : Nat) ∧ ShR (Row.mk (List.take (List.length e * (2 : Nat)) (List.drop (0 : Nat) (gC enF e))) true (Ob.cells true))))))) ∧
  (br (lgR (Row.mk (List.take (List.length e * (2 : Nat)) (List.drop (0 : Nat) (gC enF e))) true (Ob.cells true)))
   ((((((0 : Nat) + List.length r * (2 : Nat) ≤ List.length (gC enF r) ∧ Plain (List.take (List.length r * (2 : Nat)) (List.drop (0 : Nat) (gC enF r)))) ∧ True) ∧ (True ∧ (IsF (Row.mk (List.take (List.length r * (2 : Nat)) (List.drop (0 : Nat) (gC enF r))) true (Ob.cells true)) (List.length r) ∧ (List.length r ≤ (1048576 : Nat) ∧ ShR (Row.mk (List.take (List.length r * (2 : Nat)) (List.drop (0 : Nat) (gC enF r))) true (Ob.cells true))))))) ∧
   (br (lgR (Row.mk (List.take (List.length r * (2 : Nat)) (List.drop (0 : Nat) (gC enF r))) true (Ob.cells true)))
    (br (!decide (Int.ofNat (List.length x.8.1.1) ≤ (2000 : Int)))
     (((True ∧ (True ∧ True))) ∧
     ((true = true) ∧
     ((Eq (α := List Value) (gC enF e) (gC enF e)) ∧
     ((Plain (gC enF e)) ∧
     ((Eq (α := List Value) (gC enF r) (gC enF r)) ∧
     ((Plain (gC enF r)) ∧
     ((Eq (α := List Value) (gC enF q) (gC enF q)) ∧
     ((Plain (gC enF q)) ∧
     True))))))))
     ((((((0 : Nat) + List.length q * (2 : Nat) ≤ List.length (gC enF q) ∧ Plain (List.take (List.length q * (2 : Nat)) (List.drop (0 : Nat) (gC enF q)))) ∧ True) ∧ (True ∧ (IsF (Row.mk (List.take (List.length q * (2 : Nat)) (List.drop (0 : Nat) (gC enF q))) true (Ob.cells true)) (List.length q) ∧ (List.length q ≤ (1048576 : Nat) ∧ ShR (Row.mk (List.take (List.length q * (2 : Nat)) (List.drop (0 : Nat) (gC enF q))) true (Ob.cells true))))))) ∧
     (br (!lgR (Row.mk (List.take (List.length q * (2 : Nat)) (List.drop (0 : Nat) (gC enF q))) true (Ob.cells true)))
      (((True ∧ (True ∧ True))) ∧
      ((true = true) ∧
      ((Eq (α := List Value) (gC enF e) (gC enF e)) ∧
      ((Plain (gC enF e)) ∧
      ((Eq (α := List Value) (gC enF r) (gC enF r)) ∧
      ((Plain (gC enF r)) ∧
      ((Eq (α := List Value) (gC enF q) (gC enF q)) ∧
      ((Plain (gC enF q)) ∧
      True))))))))
      ((((((0 : Nat) + List.length r * (2 : Nat) ≤ List.length (gC enF r) ∧ Plain (List.take (List.length r * (2 : Nat)) (List.drop (0 : Nat) (gC enF r)))) ∧ True) ∧ ((Plain (stC (Row.mk (List.take (List.length r * (2 : Nat)) (List.drop (0 : Nat) (gC enF r))) true (Ob.cells true))) ∧ True) ∧ (IsF (Row.mk (List.take (List.length r * (2 : Nat)) (List.drop (0 : Nat) (gC enF r))) true (Ob.cells true)) (List.length r) ∧ (List.length r ≤ (9223372036854775807 : Nat) ∧ vaB (Row.mk (List.take (List.length r * (2 : Nat)) (List.drop (0 : Nat) (gC enF r))) true (Ob.cells true)) ≤ (16777000 : Nat)))))) ∧
      ((((((0 : Nat) + List.length r * (2 : Nat) ≤ List.length (gC enF r) ∧ Plain (List.take (List.length r * (2 : Nat)) (List.drop (0 : Nat) (gC enF r)))) ∧ (True ∧ True)) ∧ (True ∧ (IsF (Row.mk (List.take (List.length r * (2 : Nat)) (List.drop (0 : Nat) (gC enF r))) true (Ob.cells true)) (List.length r) ∧ (List.length r ≤ (9223372036854775807 : Nat) ∧ alB (Row.mk (List.take (List.length r * (2 : Nat)) (List.drop (0 : Nat) (gC enF r))) true (Ob.cells true)) (ByteArray.mk #[(118 : UInt8), (97 : UInt8), (114 : UInt8), (121 : UInt8)]) ≤ (16777216 : Nat)))))) ∧
      (((((True ∧ (True ∧ (True ∧ (True ∧ (((0 : Nat) + List.length e * (2 : Nat) ≤ List.length (gC enF e) ∧ Plain (List.take (List.length e * (2 : Nat)) (List.drop (0 : Nat) (gC enF e)))) ∧ (True ∧ (True ∧ (((0 : Nat) + List.length r * (2 : Nat) ≤ List.length (gC enF r) ∧ Plain (List.take (List.length r * (2 : Nat)) (List.drop (0 : Nat) (gC enF r)))) ∧ (True ∧ (True ∧ (True ∧ (True ∧ True)))))))))))) ∧ ((True ∧ (True ∧ (True ∧ (True ∧ (((0 : Nat) + List.length e * (2 : Nat) ≤ List.length (gC enF e) ∧ Plain (List.take (List.length e * (2 : Nat)) (List.drop (0 : Nat) (gC enF e)))) ∧ (True ∧ True)))))) ∧ True)) ∧ (True ∧ (IsF (Row.mk (List.take (List.length e * (2 : Nat)) (List.drop (0 : Nat) (gC enF e))) true (Ob.cells true)) (List.length e) ∧ (IsF (Row.mk (List.take (List.length r * (2 : Nat)) (List.drop (0 : Nat) (gC enF r))) true (Ob.cells true)) (List.length r) ∧ (IsF (Row.mk (List.take (List.length e * (2 : Nat)) (List.drop (0 : Nat) (gC enF e))) true (Ob.cells true)) (List.length e) ∧ (List.length e ≤ (9223372036854775807 : Nat) ∧ (List.length r ≤ (9223372036854775807 : Nat) ∧ (List.length e ≤ (9223372036854775807 : Nat) ∧ (BigV1 (Row.mk (List.take (List.length e * (2 : Nat)) (List.drop (0 : Nat) (gC enF e))) true (Ob.cells true)) ∧ (BigV1 (Row.mk (List.take (List.length r * (2 : Nat)) (List.drop (0 : Nat) (gC enF r))) true (Ob.cells true)) ∧ BigV1 (Row.mk (List.take (List.length e * (2 : Nat)) (List.drop (0 : Nat) (gC enF e))) true (Ob.cells true))))))))))))) ∧
      (br (matR (Row.mk (List.take (List.length e * (2 : Nat)) (List.drop (0 : Nat) (gC enF e))) true (Ob.cells true)) (Row.mk (List.take (List.length r * (2 : Nat)) (List.drop (0 : Nat) (gC enF r))) true (Ob.cells true)) (Row.mk (List.take (List.length e * (2 : Nat)) (List.drop (0 : Nat) (gC enF e))) true (Ob.cells true)) == !stB (Row.mk (List.take (List.length r * (2 : Nat)) (List.drop (0 : Nat) (gC enF r))) true (Ob.cells true)))
       (br (decide (alN (Row.mk (List.take (List.length r * (2 : Nat)) (List.drop (0 : Nat) (gC enF r))) true (Ob.cells true)) (ByteArray.mk #[(118 : UInt8), (97 : UInt8), (114 : UInt8), (121 : UInt8)]) > (0 : Int)))
        (((True ∧ (True ∧ True))) ∧
        ((true = true) ∧
        ((Eq (α := List Value) (gC enF e) (gC enF e)) ∧
        ((Plain (gC enF e)) ∧
        ((Eq (α := List Value) (gC enF r) (gC enF r)) ∧
        ((Plain (gC enF r)) ∧
        ((Eq (α := List Value) (gC enF q) (gC enF q)) ∧
        ((Plain (gC enF q)) ∧
        True))))))))
        (((((True ∧ (True ∧ (True ∧ (True ∧ (((0 : Nat) + List.length e * (2 : Nat) ≤ List.length (gC enF e) ∧ Plain (List.take (List.length e * (2 : Nat)) (List.drop (0 : Nat) (gC enF e)))) ∧ (True ∧ (True ∧ (((0 : Nat) + List.length r * (2 : Nat) ≤ List.length (gC enF r) ∧ Plain (List.take (List.length r * (2 : Nat)) (List.drop (0 : Nat) (gC enF r)))) ∧ (True ∧ (True ∧ (True ∧ (True ∧ True)))))))))))) ∧ ((True ∧ (True ∧ (True ∧ (True ∧ (((0 : Nat) + List.length q * (2 : Nat) ≤ List.length (gC enF q) ∧ Plain (List.take (List.length q * (2 : Nat)) (List.drop (0 : Nat) (gC enF q)))) ∧ (True ∧ True)))))) ∧ True)) ∧ (True ∧ (IsF (Row.mk (List.take (List.length e * (2 : Nat)) (List.drop (0 : Nat) (gC enF e))) true (Ob.cells true)) (List.length e) ∧ (IsF (Row.mk (List.take (List.length r * (2 : Nat)) (List.drop (0 : Nat) (gC enF r))) true (Ob.cells true)) (List.length r) ∧ (IsF (Row.mk (List.take (List.length q * (2 : Nat)) (List.drop (0 : Nat) (gC enF q))) true (Ob.cells true)) (List.length q) ∧ (List.length e ≤ (9223372036854775807 : Nat) ∧ (List.length r ≤ (9223372036854775807 : Nat) ∧ (List.length q ≤ (9223372036854775807 : Nat) ∧ (BigV1 (Row.mk (List.take (List.length e * (2 : Nat)) (List.drop (0 : Nat) (gC enF e))) true (Ob.cells true)) ∧ (BigV1 (Row.mk (List.take (List.length r * (2 : Nat)) (List.drop (0 : Nat) (gC enF r))) true (Ob.cells true)) ∧ BigV1 (Row.mk (List.take (List.length q * (2 : Nat)) (List.drop (0 : Nat) (gC enF q))) true (Ob.cells true))))))))))))) ∧
        (br (matR (Row.mk (List.take (List.length e * (2 : Nat)) (List.drop (0 : Nat) (gC enF e))) true (Ob.cells true)) (Row.mk (List.take (List.length r * (2 : Nat)) (List.drop (0 : Nat) (gC enF r))) true (Ob.cells true)) (Row.mk (List.take (List.length q * (2 : Nat)) (List.drop (0 : Nat) (gC enF q))) true (Ob.cells true)))
         (((True ∧ (True ∧ True))) ∧
         ((true = true) ∧
         ((Eq (α := List Value) (gC enF e) (gC enF e)) ∧
         ((Plain (gC enF e)) ∧
         ((Eq (α := List Value) (gC enF r) (gC enF r)) ∧
         ((Plain (gC enF r)) ∧
         ((Eq (α := List Value) (gC enF q) (gC enF q)) ∧
         ((Plain (gC enF q)) ∧
         True))))))))
         ((true = false) ∧
         ((Eq (α := List Value) (gC enF e) (gC enF e)) ∧
         ((Plain (gC enF e)) ∧
         ((Eq (α := List Value) (gC enF r) (gC enF r)) ∧
         ((Plain (gC enF r)) ∧
         ((Eq (α := List Value) (gC enF q) (gC enF q)) ∧
         ((Plain (gC enF q)) ∧
         True))))))))))
       ((true = false) ∧
       ((Eq (α := List Value) (gC enF e) (gC enF e)) ∧
       ((Plain (gC enF e)) ∧
       ((Eq (α := List Value) (gC enF r) (gC enF r)) ∧
       ((Plain (gC enF r)) ∧
       ((Eq (α := List Value) (gC enF q) (gC enF q)) ∧
       ((Plain (gC enF q)) ∧
       True))))))))))))))
    (((True ∧ (True ∧ True))) ∧
    ((true = true) ∧
    ((Eq (α := List Value) (gC enF e) (gC enF e)) ∧
    ((Plain (gC enF e)) ∧
    ((Eq (α := List Value) (gC enF r) (gC enF r)) ∧
    ((Plain (gC enF r)) ∧
    ((Eq (α := List Value) (gC enF q) (gC enF q)) ∧
    ((Plain (gC enF q)) ∧
    True))))))))))
   (((True ∧ (True ∧ True))) ∧
   ((true = true) ∧
   ((Eq (α := List Value) (gC enF e) (gC enF e)) ∧
   ((Plain (gC enF e)) ∧
   ((Eq (α := List Value) (gC enF r) (gC enF r)) ∧
   ((Plain (gC enF r)) ∧
   ((Eq (α := List Value) (gC enF q) (gC enF q)) ∧
   ((Plain (gC enF q)) ∧
   True)))))))))) := by kernel_rfl
theorem cVr_ok : ∀ f a rows p v news, cVr f a rows = some (p, v, news) → p → Con Try.prog f a rows v (rows ++ news) := by
  intro f a rows p v news h hp
  have e : ∀ l, decF (gRo enF l).cells = l := fun l => decF_gC l
  unfold cVr at h
  split at h <;> simp only [Option.some.injEq, Prod.mk.injEq, reduceCtorEq] at h <;> obtain ⟨rfl, rfl, rfl⟩ := h
  · obtain ⟨⟨l0, rfl, rfl⟩, ⟨l1, rfl, rfl⟩, ⟨l2, rfl, rfl⟩, h0, h1, h2, b0, b1, b2⟩ := hp
    simp only [BigV1, matR, e, List.append_nil] at b0 b1 b2 ⊢
    exact Mt_con ⟨_, _, _, _, _, _, _, _, _, _⟩ ⟨_, _, _, _, _⟩ l0 l1 l2 h0 h1 h2 b0 b1 b2
  · obtain ⟨⟨l0, rfl, rfl⟩, ⟨l1, rfl, rfl⟩, ⟨l2, rfl, rfl⟩, h0, h1, h2, b0, b1, b2⟩ := hp
    simp only [BigV1, matR, e, List.append_nil] at b0 b1 b2 ⊢
    exact Mx_con ⟨_, _, _, _, _, _, _, _, _, _⟩ ⟨_, _, _, _, _⟩ l0 l1 l2 h0 h1 h2 b0 b1 b2
  · obtain ⟨⟨l, rfl, rfl⟩, h1, h2⟩ := hp
    simp only [vaB, stN, stC, stB, e] at h2 ⊢
    exact Rx_con l h1 h2
  · obtain ⟨⟨l, rfl, rfl⟩, h1, h2⟩ := hp
    simp only [alV, alN, alB, e, List.append_nil] at h2 ⊢
    exact Ra_con l (L _) h1 h2
  · obtain ⟨⟨l, rfl, rfl⟩, h1, h2⟩ := hp
    simp only [ShR, lgR, e, List.append_nil] at h2 ⊢
    exact Lg_con l h1 h2
  · exact con_run mixed (n := 1000000) (by kernel_rfl) (by kernel_rfl)
theorem strEq_self (s : ByteArray) : strEq s s = true := by
  have := strEq_bs (L s) (L s)
  rw [bsL] at this; rw [this]; simp
theorem big_lg (l : List Fl) (h : lgN l ≤ 2000) : BigV l := fun x => by have := allL_le l x; omega
theorem mat_self (e r : List Fl) : matL e r e = !(starL r).isNone := by
  unfold matL
  cases starL r with
  | none => rfl
  | some ns =>
    simp only [Option.isNone_some, Bool.not_false]
    rw [List.all_eq_true]
    intro x _
    unfold mOne; simp
theorem mat_no (e r q : List Fl) (h : allN sVary r = 0) : matL e r q = true := by
  unfold matL starL
  rw [all_none _ _ h, split_nil]; rfl
theorem vt_law (em es ea ep : ByteArray) (e : List Fl) (ek st : Int) (r : List Fl) (k2 : Int) (body : ByteArray) (asked came : Int) (qm qs qa qp : ByteArray) (q : List Fl) (qk : Int)
    (z1 : em.size ≤ 1048576) (z2 : es.size ≤ 1048576) (z3 : ea.size ≤ 1048576) (z4 : ep.size ≤ 1048576) (he : e.length ≤ 1048576) (he2 : ∀ f ∈ e, f.n.length ≤ 1048576 ∧ f.v.length ≤ 1048576) (i1 : I64 ek) (i2 : I64 st) (hr : r.length ≤ 1048576) (hr2 : ∀ f ∈ r, f.n.length ≤ 1048576 ∧ f.v.length ≤ 1048576) (i3 : I64 k2) (z5 : body.size ≤ 1048576) (i4 : I64 asked) (i5 : I64 came)
    (z6 : qm.size ≤ 1048576) (z7 : qs.size ≤ 1048576) (z8 : qa.size ≤ 1048576) (z9 : qp.size ≤ 1048576) (hq : q.length ≤ 1048576) (hq2 : ∀ f ∈ q, f.n.length ≤ 1048576 ∧ f.v.length ≤ 1048576) (i6 : I64 qk) :
    Con Try.prog 4 [.agg ⟨enCells ⟨em, es, ea, ep, ek, st, k2, body, asked, came⟩ 0 e.length 1 r.length⟩, .agg ⟨rqCells ⟨qm, qs, qa, qp, qk⟩ 2 q.length⟩] [gRo enF e, gRo enF r, gRo enF q] (.bool true) [gRo enF e, gRo enF r, gRo enF q] := by
  refine con_vc (E := EVr) mixed (calls_envC cVr_ok) (lok_envC _ _ _) (M := noM) lm_none (Vt_vc ⟨em, es, ea, ep, ek, st, k2, body, asked, came⟩ ⟨qm, qs, qa, qp, qk⟩ e r q) ?_
  have hm : maxLen = 9223372036854775807 := by unfold maxLen; rfl
  have e4 : (⟨#[118, 97, 114, 121]⟩ : ByteArray) = bs sVary := rfl
  have m1 : ∀ (a b c : List Fl) x y z o p t, matR ⟨gC enF a, x, o⟩ ⟨gC enF b, y, p⟩ ⟨gC enF c, z, t⟩ = matL a b c := fun a b c x y z o p t => by unfold matR; simp only; rw [decF_gC, decF_gC, decF_gC]
  have m2 : ∀ (l : List Fl) b o, lgR ⟨gC enF l, b, o⟩ = lgB l := fun l b o => by unfold lgR; simp only; rw [decF_gC]
  have m3 : ∀ (l : List Fl) b o, (∀ f ∈ l, f.n.length ≤ 1048576 ∧ f.v.length ≤ 1048576) → ShR ⟨gC enF l, b, o⟩ := fun l b o h => by unfold ShR; simp only; rw [decF_gC]; exact h
  have m4 : ∀ (l : List Fl) b o, lgB l = true → BigV1 ⟨gC enF l, b, o⟩ := fun l b o h => by unfold BigV1; simp only; rw [decF_gC]; exact big_lg l (by unfold lgB at h; simpa using h)
  have m5 : ∀ (l : List Fl) b o, vaB ⟨gC enF l, b, o⟩ = (allL l sVary).length := fun l b o => by unfold vaB; simp only; rw [decF_gC]
  have m6 : ∀ (l : List Fl) b o, alB ⟨gC enF l, b, o⟩ (bs sVary) = (allL l sVary).length := fun l b o => by unfold alB; simp only; rw [decF_gC, L_bs]
  have m7 : ∀ (l : List Fl) b o, alN ⟨gC enF l, b, o⟩ (bs sVary) = (allN sVary l : Nat) := fun l b o => by unfold alN; simp only; rw [decF_gC, L_bs]
  have m8 : ∀ (l : List Fl) b o, stB ⟨gC enF l, b, o⟩ = (starL l).isNone := fun l b o => by unfold stB; simp only; rw [decF_gC]
  have m9 : ∀ (l : List Fl) b o, Plain (stC ⟨gC enF l, b, o⟩) := fun l b o => by unfold stC; exact sPl _
  have sz : ∀ s : ByteArray, s.data.toList.length = s.size := fun s => by rw [Array.length_toList]; rfl
  simp only [ofNat_eq, toNat_cast, Nat.zero_add, Nat.add_zero, Nat.mul_one, List.drop_zero, bCells_len, bCells_drop, bCells_take, bCells_app, bCells_one, bCells_plain, List.length_replicate, List.length_append, List.length_take, List.length_drop, List.take_length, and_true, true_and, and_self, decide_true, List.length_nil, List.length_cons, Nat.sub_zero, dB_mk, dB_ro, List.take_zero, fPl, sPl, sLen, fLen, fTake, e4, m1, m2, m5, m6, m7, m8, sz]
  refine ⟨⟨by omega, isF_mk _ _ rfl, by omega, m3 _ _ _ he2⟩, br_intro (fun l1 => ⟨⟨by omega, isF_mk _ _ rfl, by omega, m3 _ _ _ hr2⟩, br_intro (fun l2 => br_intro (fun _ => trivial) (fun _ => ⟨⟨by omega, isF_mk _ _ rfl, by omega, m3 _ _ _ hq2⟩, br_intro (fun _ => trivial) (fun l3 => ?_)⟩)) (fun _ => trivial)⟩) (fun _ => trivial)⟩
  have l3 : lgB q = true := by simpa using l3
  simp (disch := omega) only [brT]
  refine br_b (strEq_self _) ⟨⟨⟨⟨by omega, by omega⟩, by omega⟩, isF_mk _ _ rfl, isF_mk _ _ rfl, isF_mk _ _ rfl, by omega, by omega, by omega, m4 _ _ _ l1, m4 _ _ _ l2, m4 _ _ _ l3⟩, ⟨⟨⟨by omega, by omega⟩, by omega⟩, isF_mk _ _ rfl, isF_mk _ _ rfl, isF_mk _ _ rfl, by omega, by omega, by omega, m4 _ _ _ l1, m4 _ _ _ l2, m4 _ _ _ l3⟩, br_b (by simp) trivial⟩
theorem vo_law (em es ea ep : ByteArray) (e : List Fl) (ek st : Int) (r : List Fl) (k2 : Int) (body : ByteArray) (asked came : Int) (qm qs qa qp : ByteArray) (q : List Fl) (qk : Int)
    (z1 : em.size ≤ 1048576) (z2 : es.size ≤ 1048576) (z3 : ea.size ≤ 1048576) (z4 : ep.size ≤ 1048576) (he : e.length ≤ 1048576) (he2 : ∀ f ∈ e, f.n.length ≤ 1048576 ∧ f.v.length ≤ 1048576) (i1 : I64 ek) (i2 : I64 st) (hr : r.length ≤ 1048576) (hr2 : ∀ f ∈ r, f.n.length ≤ 1048576 ∧ f.v.length ≤ 1048576) (i3 : I64 k2) (z5 : body.size ≤ 1048576) (i4 : I64 asked) (i5 : I64 came)
    (z6 : qm.size ≤ 1048576) (z7 : qs.size ≤ 1048576) (z8 : qa.size ≤ 1048576) (z9 : qp.size ≤ 1048576) (hq : q.length ≤ 1048576) (hq2 : ∀ f ∈ q, f.n.length ≤ 1048576 ∧ f.v.length ≤ 1048576) (i6 : I64 qk) :
    Con Try.prog 5 [.agg ⟨enCells ⟨em, es, ea, ep, ek, st, k2, body, asked, came⟩ 0 e.length 1 r.length⟩, .agg ⟨rqCells ⟨qm, qs, qa, qp, qk⟩ 2 q.length⟩] [gRo enF e, gRo enF r, gRo enF q] (.bool true) [gRo enF e, gRo enF r, gRo enF q] := by
  refine con_vc (E := EVr) mixed (calls_envC cVr_ok) (lok_envC _ _ _) (M := noM) lm_none (Vo_vc ⟨em, es, ea, ep, ek, st, k2, body, asked, came⟩ ⟨qm, qs, qa, qp, qk⟩ e r q) ?_
  have hm : maxLen = 9223372036854775807 := by unfold maxLen; rfl
  have e4 : (⟨#[118, 97, 114, 121]⟩ : ByteArray) = bs sVary := rfl
  have m1 : ∀ (a b c : List Fl) x y z o p t, matR ⟨gC enF a, x, o⟩ ⟨gC enF b, y, p⟩ ⟨gC enF c, z, t⟩ = matL a b c := fun a b c x y z o p t => by unfold matR; simp only; rw [decF_gC, decF_gC, decF_gC]
  have m2 : ∀ (l : List Fl) b o, lgR ⟨gC enF l, b, o⟩ = lgB l := fun l b o => by unfold lgR; simp only; rw [decF_gC]
  have m3 : ∀ (l : List Fl) b o, (∀ f ∈ l, f.n.length ≤ 1048576 ∧ f.v.length ≤ 1048576) → ShR ⟨gC enF l, b, o⟩ := fun l b o h => by unfold ShR; simp only; rw [decF_gC]; exact h
  have m4 : ∀ (l : List Fl) b o, lgB l = true → BigV1 ⟨gC enF l, b, o⟩ := fun l b o h => by unfold BigV1; simp only; rw [decF_gC]; exact big_lg l (by unfold lgB at h; simpa using h)
  have m5 : ∀ (l : List Fl) b o, vaB ⟨gC enF l, b, o⟩ = (allL l sVary).length := fun l b o => by unfold vaB; simp only; rw [decF_gC]
  have m6 : ∀ (l : List Fl) b o, alB ⟨gC enF l, b, o⟩ (bs sVary) = (allL l sVary).length := fun l b o => by unfold alB; simp only; rw [decF_gC, L_bs]
  have m7 : ∀ (l : List Fl) b o, alN ⟨gC enF l, b, o⟩ (bs sVary) = (allN sVary l : Nat) := fun l b o => by unfold alN; simp only; rw [decF_gC, L_bs]
  have m8 : ∀ (l : List Fl) b o, stB ⟨gC enF l, b, o⟩ = (starL l).isNone := fun l b o => by unfold stB; simp only; rw [decF_gC]
  have m9 : ∀ (l : List Fl) b o, Plain (stC ⟨gC enF l, b, o⟩) := fun l b o => by unfold stC; exact sPl _
  have sz : ∀ s : ByteArray, s.data.toList.length = s.size := fun s => by rw [Array.length_toList]; rfl
  simp only [ofNat_eq, toNat_cast, Nat.zero_add, Nat.add_zero, Nat.mul_one, List.drop_zero, bCells_len, bCells_drop, bCells_take, bCells_app, bCells_one, bCells_plain, List.length_replicate, List.length_append, List.length_take, List.length_drop, List.take_length, and_true, true_and, and_self, decide_true, List.length_nil, List.length_cons, Nat.sub_zero, dB_mk, dB_ro, List.take_zero, fPl, sPl, sLen, fLen, fTake, e4, m1, m2, m5, m6, m7, m8, sz]
  refine ⟨⟨by omega, isF_mk _ _ rfl, by omega, m3 _ _ _ he2⟩, br_intro (fun l1 => ⟨⟨by omega, isF_mk _ _ rfl, by omega, m3 _ _ _ hr2⟩, br_intro (fun l2 => br_intro (fun _ => trivial) (fun _ => ⟨⟨by omega, isF_mk _ _ rfl, by omega, m3 _ _ _ hq2⟩, br_intro (fun _ => trivial) (fun l3 => ?_)⟩)) (fun _ => trivial)⟩) (fun _ => trivial)⟩
  have l3 : lgB q = true := by simpa using l3
  have hv := allL_le r sVary
  have l2' : lgN r ≤ 2000 := by unfold lgB at l2; simpa using l2
  refine ⟨⟨by omega, m9 _ _ _, isF_mk _ _ rfl, by omega, by omega⟩, ⟨by omega, isF_mk _ _ rfl, by omega, by omega⟩, ⟨⟨⟨by omega, by omega⟩, by omega⟩, isF_mk _ _ rfl, isF_mk _ _ rfl, isF_mk _ _ rfl, by omega, by omega, by omega, m4 _ _ _ l1, m4 _ _ _ l2, m4 _ _ _ l1⟩, br_b (by rw [mat_self]; simp) (br_if (fun _ => trivial) (fun k => ⟨⟨⟨⟨by omega, by omega⟩, by omega⟩, isF_mk _ _ rfl, isF_mk _ _ rfl, isF_mk _ _ rfl, by omega, by omega, by omega, m4 _ _ _ l1, m4 _ _ _ l2, m4 _ _ _ l3⟩, br_b (mat_no _ _ _ (by omega)) trivial⟩))⟩
end Go.Proofs.Ythmjapgfnpjgnaa.tk
