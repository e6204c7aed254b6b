/- The law on single settings: what nobody knows changes nothing; each known one, told alone, changes its own. No condition. -/
import Derived.Test.YtocehonfnpjcjaaSy3
import Derived.Test.YtocehonfnpjcjaaRows
namespace Go.Proofs.Ytocehonfnpjcjaa.w
open Go Go.Ev Go.Sy Go.RowKit

def valueC (id v : Int) : Int :=
  bif id == 2 then (bif (v != 0) && (v != 1) then 1 else 0)
  else bif id == 4 then (bif decide (v < 0) || decide (v > 2147483647) then 3 else 0)
  else bif id == 5 then (bif decide (v < 16384) || decide (v > 16777215) then 1 else 0) else 0
def clampV (v : Int) : Int := bif decide (v < 0) then 0 else bif decide (v > 2147483647) then 2147483647 else v
def setV (i id v x : Int) : Int := bif id == i then clampV v else x
def wv (c n lo hi : Int) : Int := bif lo == 1 then c else within n lo hi
def T1 (c : Int) (f : FuncId) (args : List Value) (h : Hp) : Option (Prop × Value × Hp) :=
  match f, args with
  | 3, [] => some (True, .bool true, h)
  | 11, [.agg ⟨[.int .i64 id, .int .i64 v]⟩] => some (True, .int .i64 (valueC id v), h)
  | 21, [.agg ⟨[.int .i64 a, .int .i64 b, .int .i64 d, .int .i64 e, .int .i64 g]⟩, .agg ⟨[.int .i64 id, .int .i64 v]⟩] =>
    some (True, .agg #[.int .i64 (setV 1 id v a), .int .i64 (setV 3 id v b), .int .i64 (setV 4 id v d), .int .i64 (setV 5 id v e), .int .i64 (setV 6 id v g)], h)
  | 18, [.int .i64 n, .int .i64 lo, .int .i64 hi] => some (Small lo ∧ Small hi ∧ lo ≤ hi ∧ wv c n lo hi = within n lo hi, .int .i64 (wv c n lo hi), h)
  | _, _ => none
noncomputable abbrev E0 : Env := bare Try.prog
noncomputable abbrev E1 (c : Int) : Env := withT Try.prog (T1 c)
theorem mixed : Try.prog.follows .mixedOrders = true := by kernel_rfl
theorem within_vc (n lo hi : Int) (v : Value) : scall E0 40 18 [.int .i64 n, .int .i64 lo, .int .i64 hi] ⟨.leaf, 0⟩ (fun r => r.1 = .ret v) =
  (br (IntKind.wrap IntKind.i64 (IntKind.wrap IntKind.i64 (hi - lo) + (1 : Int)) != (0 : Int))
   (br (decide (Int.tmod n (IntKind.wrap IntKind.i64 (IntKind.wrap IntKind.i64 (hi - lo) + (1 : Int))) < (0 : Int)))
    (End.ret (Value.int IntKind.i64 (IntKind.wrap IntKind.i64 (lo + IntKind.wrap IntKind.i64 (IntKind.wrap IntKind.i64 (IntKind.wrap IntKind.i64 (Int.tmod n (IntKind.wrap IntKind.i64 (IntKind.wrap IntKind.i64 (hi - lo) + (1 : Int))) + hi) - lo) + (1 : Int))))) = End.ret v)
    (End.ret (Value.int IntKind.i64 (IntKind.wrap IntKind.i64 (lo + Int.tmod n (IntKind.wrap IntKind.i64 (IntKind.wrap IntKind.i64 (hi - lo) + (1 : Int)))))) = End.ret v))
   False) := by kernel_rfl
theorem value_vc (id v : Int) (r : Value) : scall E0 40 11 [.agg #[.int .i64 id, .int .i64 v]] ⟨.leaf, 0⟩ (fun x => x.1 = .ret r) =
  (br (id == (2 : Int))
   (br (v != (0 : Int))
    (br (v != (1 : Int))
     (End.ret (Value.int IntKind.i64 (1 : Int)) = End.ret r)
     (End.ret (Value.int IntKind.i64 (0 : Int)) = End.ret r))
    (End.ret (Value.int IntKind.i64 (0 : Int)) = End.ret r))
   (br (id == (4 : Int))
    (br (decide (v < (0 : Int)))
     (End.ret (Value.int IntKind.i64 (3 : Int)) = End.ret r)
     (br (decide (v > (2147483647 : Int)))
      (End.ret (Value.int IntKind.i64 (3 : Int)) = End.ret r)
      (End.ret (Value.int IntKind.i64 (0 : Int)) = End.ret r)))
    (br (id == (5 : Int))
     (br (decide (v < (16384 : Int)))
      (End.ret (Value.int IntKind.i64 (1 : Int)) = End.ret r)
      (br (decide (v > (16777215 : Int)))
       (End.ret (Value.int IntKind.i64 (1 : Int)) = End.ret r)
       (End.ret (Value.int IntKind.i64 (0 : Int)) = End.ret r)))
     (End.ret (Value.int IntKind.i64 (0 : Int)) = End.ret r)))) := by kernel_rfl
theorem set_vc (a b c d e id v : Int) (r : Value) : scall E0 40 21 [.agg #[.int .i64 a, .int .i64 b, .int .i64 c, .int .i64 d, .int .i64 e], .agg #[.int .i64 id, .int .i64 v]] ⟨.leaf, 0⟩ (fun x => x.1 = .ret r) =
  (br (id == (1 : Int))
   (End.ret (Value.agg (Array.mk [Value.int IntKind.i64 (if (2147483647 : Int) < if (0 : Int) > v then (0 : Int) else v then (2147483647 : Int) else if (0 : Int) > v then (0 : Int) else v), Value.int IntKind.i64 b, Value.int IntKind.i64 c, Value.int IntKind.i64 d, Value.int IntKind.i64 e])) = End.ret r)
   (br (id == (3 : Int))
    (End.ret (Value.agg (Array.mk [Value.int IntKind.i64 a, Value.int IntKind.i64 (if (2147483647 : Int) < if (0 : Int) > v then (0 : Int) else v then (2147483647 : Int) else if (0 : Int) > v then (0 : Int) else v), Value.int IntKind.i64 c, Value.int IntKind.i64 d, Value.int IntKind.i64 e])) = End.ret r)
    (br (id == (4 : Int))
     (End.ret (Value.agg (Array.mk [Value.int IntKind.i64 a, Value.int IntKind.i64 b, Value.int IntKind.i64 (if (2147483647 : Int) < if (0 : Int) > v then (0 : Int) else v then (2147483647 : Int) else if (0 : Int) > v then (0 : Int) else v), Value.int IntKind.i64 d, Value.int IntKind.i64 e])) = End.ret r)
     (br (id == (5 : Int))
      (End.ret (Value.agg (Array.mk [Value.int IntKind.i64 a, Value.int IntKind.i64 b, Value.int IntKind.i64 c, Value.int IntKind.i64 (if (2147483647 : Int) < if (0 : Int) > v then (0 : Int) else v then (2147483647 : Int) else if (0 : Int) > v then (0 : Int) else v), Value.int IntKind.i64 e])) = End.ret r)
      (br (id == (6 : Int))
       (End.ret (Value.agg (Array.mk [Value.int IntKind.i64 a, Value.int IntKind.i64 b, Value.int IntKind.i64 c, Value.int IntKind.i64 d, Value.int IntKind.i64 (if (2147483647 : Int) < if (0 : Int) > v then (0 : Int) else v then (2147483647 : Int) else if (0 : Int) > v then (0 : Int) else v)])) = End.ret r)
       (End.ret (Value.agg (Array.mk [Value.int IntKind.i64 a, Value.int IntKind.i64 b, Value.int IntKind.i64 c, Value.int IntKind.i64 d, Value.int IntKind.i64 e])) = End.ret r)))))) := by kernel_rfl
theorem first1_vc (a b : Int) : scall (E1 1) 60 7 [.int .i64 a, .int .i64 b] ⟨.leaf, 0⟩ (fun r => r.1 = .ret (.bool true)) =
  ((Small (16384 : Int) ∧ Small (16777215 : Int) ∧ (16384 : Int) ≤ (16777215 : Int) ∧ wv (1 : Int) b (16384 : Int) (16777215 : Int) = within b (16384 : Int) (16777215 : Int)) ∧
  ((Small (1 : Int) ∧ Small (6 : Int) ∧ (1 : Int) ≤ (6 : Int) ∧ wv (1 : Int) a (1 : Int) (6 : Int) = within a (1 : Int) (6 : Int)) ∧
  ((True) ∧
  ((True) ∧
  ((Value.agg (Array.mk [Value.int IntKind.i64 (4096 : Int), Value.int IntKind.i64 (2147483647 : Int), Value.int IntKind.i64 (65535 : Int), Value.int IntKind.i64 (16384 : Int), Value.int IntKind.i64 (2147483647 : Int)]) = Value.agg (Array.mk [Value.int IntKind.i64 (4096 : Int), Value.int IntKind.i64 (2147483647 : Int), Value.int IntKind.i64 (65535 : Int), Value.int IntKind.i64 (16384 : Int), Value.int IntKind.i64 (2147483647 : Int)])) ∧
  ((Value.agg (Array.mk [Value.int IntKind.i64 (4096 : Int), Value.int IntKind.i64 (2147483647 : Int), Value.int IntKind.i64 (65535 : Int), Value.int IntKind.i64 (16384 : Int), Value.int IntKind.i64 (2147483647 : Int)]) = Value.agg (Array.mk [Value.int IntKind.i64 (4096 : Int), Value.int IntKind.i64 (2147483647 : Int), Value.int IntKind.i64 (65535 : Int), Value.int IntKind.i64 (16384 : Int), Value.int IntKind.i64 (2147483647 : Int)])) ∧
  ((Small (7 : Int) ∧ Small (65535 : Int) ∧ (7 : Int) ≤ (65535 : Int) ∧ wv (1 : Int) a (7 : Int) (65535 : Int) = within a (7 : Int) (65535 : Int)) ∧
  ((True) ∧
  (br (valueC (wv (1 : Int) a (7 : Int) (65535 : Int)) b != (0 : Int))
   ((Value.agg (Array.mk [Value.int IntKind.i64 (4096 : Int), Value.int IntKind.i64 (2147483647 : Int), Value.int IntKind.i64 (65535 : Int), Value.int IntKind.i64 (16384 : Int), Value.int IntKind.i64 (2147483647 : Int)]) = Value.agg (Array.mk [Value.int IntKind.i64 (4096 : Int), Value.int IntKind.i64 (2147483647 : Int), Value.int IntKind.i64 (65535 : Int), Value.int IntKind.i64 (16384 : Int), Value.int IntKind.i64 (2147483647 : Int)])) ∧
   ((Value.agg (Array.mk [Value.int IntKind.i64 (4096 : Int), Value.int IntKind.i64 (2147483647 : Int), Value.int IntKind.i64 (65535 : Int), Value.int IntKind.i64 (16384 : Int), Value.int IntKind.i64 (2147483647 : Int)]) = Value.agg (Array.mk [Value.int IntKind.i64 (4096 : Int), Value.int IntKind.i64 (2147483647 : Int), Value.int IntKind.i64 (65535 : Int), Value.int IntKind.i64 (16384 : Int), Value.int IntKind.i64 (2147483647 : Int)])) ∧
   ((Small (1 : Int) ∧ Small (6 : Int) ∧ (1 : Int) ≤ (6 : Int) ∧ wv (1 : Int) a (1 : Int) (6 : Int) = within a (1 : Int) (6 : Int)) ∧
   (br (setV (1 : Int) (wv (1 : Int) a (1 : Int) (6 : Int)) (wv (1 : Int) b (16384 : Int) (16777215 : Int)) (4096 : Int) == wv (1 : Int) b (16384 : Int) (16777215 : Int) && (setV (3 : Int) (wv (1 : Int) a (1 : Int) (6 : Int)) (wv (1 : Int) b (16384 : Int) (16777215 : Int)) (2147483647 : Int) == (2147483647 : Int) && (setV (4 : Int) (wv (1 : Int) a (1 : Int) (6 : Int)) (wv (1 : Int) b (16384 : Int) (16777215 : Int)) (65535 : Int) == (65535 : Int) && (setV (5 : Int) (wv (1 : Int) a (1 : Int) (6 : Int)) (wv (1 : Int) b (16384 : Int) (16777215 : Int)) (16384 : Int) == (16384 : Int) && (setV (6 : Int) (wv (1 : Int) a (1 : Int) (6 : Int)) (wv (1 : Int) b (16384 : Int) (16777215 : Int)) (2147483647 : Int) == (2147483647 : Int) && true)))))
    (br (valueC (wv (1 : Int) a (7 : Int) (65535 : Int)) b == (0 : Int))
     ((True) ∧
     (End.ret (Value.bool true) = End.ret (Value.bool true)))
     (End.ret (Value.bool false) = End.ret (Value.bool true)))
    (End.ret (Value.bool false) = End.ret (Value.bool true))))))
   ((True) ∧
   ((Value.agg (Array.mk [Value.int IntKind.i64 (4096 : Int), Value.int IntKind.i64 (2147483647 : Int), Value.int IntKind.i64 (65535 : Int), Value.int IntKind.i64 (16384 : Int), Value.int IntKind.i64 (2147483647 : Int)]) = Value.agg (Array.mk [Value.int IntKind.i64 (4096 : Int), Value.int IntKind.i64 (2147483647 : Int), Value.int IntKind.i64 (65535 : Int), Value.int IntKind.i64 (16384 : Int), Value.int IntKind.i64 (2147483647 : Int)])) ∧
   ((Value.agg (Array.mk [Value.int IntKind.i64 (4096 : Int), Value.int IntKind.i64 (2147483647 : Int), Value.int IntKind.i64 (65535 : Int), Value.int IntKind.i64 (16384 : Int), Value.int IntKind.i64 (2147483647 : Int)]) = Value.agg (Array.mk [Value.int IntKind.i64 (4096 : Int), Value.int IntKind.i64 (2147483647 : Int), Value.int IntKind.i64 (65535 : Int), Value.int IntKind.i64 (16384 : Int), Value.int IntKind.i64 (2147483647 : Int)])) ∧
   ((Small (1 : Int) ∧ Small (6 : Int) ∧ (1 : Int) ≤ (6 : Int) ∧ wv (1 : Int) a (1 : Int) (6 : Int) = within a (1 : Int) (6 : Int)) ∧
   (br (setV (1 : Int) (wv (1 : Int) a (1 : Int) (6 : Int)) (wv (1 : Int) b (16384 : Int) (16777215 : Int)) (4096 : Int) == wv (1 : Int) b (16384 : Int) (16777215 : Int) && (setV (3 : Int) (wv (1 : Int) a (1 : Int) (6 : Int)) (wv (1 : Int) b (16384 : Int) (16777215 : Int)) (2147483647 : Int) == (2147483647 : Int) && (setV (4 : Int) (wv (1 : Int) a (1 : Int) (6 : Int)) (wv (1 : Int) b (16384 : Int) (16777215 : Int)) (65535 : Int) == (65535 : Int) && (setV (5 : Int) (wv (1 : Int) a (1 : Int) (6 : Int)) (wv (1 : Int) b (16384 : Int) (16777215 : Int)) (16384 : Int) == (16384 : Int) && (setV (6 : Int) (wv (1 : Int) a (1 : Int) (6 : Int)) (wv (1 : Int) b (16384 : Int) (16777215 : Int)) (2147483647 : Int) == (2147483647 : Int) && true)))))
    (br (setV (1 : Int) (wv (1 : Int) a (7 : Int) (65535 : Int)) b (4096 : Int) == (4096 : Int) && (setV (3 : Int) (wv (1 : Int) a (7 : Int) (65535 : Int)) b (2147483647 : Int) == (2147483647 : Int) && (setV (4 : Int) (wv (1 : Int) a (7 : Int) (65535 : Int)) b (65535 : Int) == (65535 : Int) && (setV (5 : Int) (wv (1 : Int) a (7 : Int) (65535 : Int)) b (16384 : Int) == (16384 : Int) && (setV (6 : Int) (wv (1 : Int) a (7 : Int) (65535 : Int)) b (2147483647 : Int) == (2147483647 : Int) && true)))))
     ((True) ∧
     (End.ret (Value.bool true) = End.ret (Value.bool true)))
     (End.ret (Value.bool false) = End.ret (Value.bool true)))
    (End.ret (Value.bool false) = End.ret (Value.bool true)))))))))))))))) := by kernel_rfl
theorem first2_vc (a b : Int) : scall (E1 2) 60 7 [.int .i64 a, .int .i64 b] ⟨.leaf, 0⟩ (fun r => r.1 = .ret (.bool true)) =
  ((Small (16384 : Int) ∧ Small (16777215 : Int) ∧ (16384 : Int) ≤ (16777215 : Int) ∧ wv (2 : Int) b (16384 : Int) (16777215 : Int) = within b (16384 : Int) (16777215 : Int)) ∧
  ((Small (1 : Int) ∧ Small (6 : Int) ∧ (1 : Int) ≤ (6 : Int) ∧ wv (2 : Int) a (1 : Int) (6 : Int) = within a (1 : Int) (6 : Int)) ∧
  ((True) ∧
  (br (valueC (wv (2 : Int) a (1 : Int) (6 : Int)) (wv (2 : Int) b (16384 : Int) (16777215 : Int)) != (0 : Int))
   ((Value.agg (Array.mk [Value.int IntKind.i64 (4096 : Int), Value.int IntKind.i64 (2147483647 : Int), Value.int IntKind.i64 (65535 : Int), Value.int IntKind.i64 (16384 : Int), Value.int IntKind.i64 (2147483647 : Int)]) = Value.agg (Array.mk [Value.int IntKind.i64 (4096 : Int), Value.int IntKind.i64 (2147483647 : Int), Value.int IntKind.i64 (65535 : Int), Value.int IntKind.i64 (16384 : Int), Value.int IntKind.i64 (2147483647 : Int)])) ∧
   ((Value.agg (Array.mk [Value.int IntKind.i64 (4096 : Int), Value.int IntKind.i64 (2147483647 : Int), Value.int IntKind.i64 (65535 : Int), Value.int IntKind.i64 (16384 : Int), Value.int IntKind.i64 (2147483647 : Int)]) = Value.agg (Array.mk [Value.int IntKind.i64 (4096 : Int), Value.int IntKind.i64 (2147483647 : Int), Value.int IntKind.i64 (65535 : Int), Value.int IntKind.i64 (16384 : Int), Value.int IntKind.i64 (2147483647 : Int)])) ∧
   ((Small (7 : Int) ∧ Small (65535 : Int) ∧ (7 : Int) ≤ (65535 : Int) ∧ wv (2 : Int) a (7 : Int) (65535 : Int) = within a (7 : Int) (65535 : Int)) ∧
   ((True) ∧
   (br (valueC (wv (2 : Int) a (7 : Int) (65535 : Int)) b != (0 : Int))
    ((Value.agg (Array.mk [Value.int IntKind.i64 (4096 : Int), Value.int IntKind.i64 (2147483647 : Int), Value.int IntKind.i64 (65535 : Int), Value.int IntKind.i64 (16384 : Int), Value.int IntKind.i64 (2147483647 : Int)]) = Value.agg (Array.mk [Value.int IntKind.i64 (4096 : Int), Value.int IntKind.i64 (2147483647 : Int), Value.int IntKind.i64 (65535 : Int), Value.int IntKind.i64 (16384 : Int), Value.int IntKind.i64 (2147483647 : Int)])) ∧
    ((Value.agg (Array.mk [Value.int IntKind.i64 (4096 : Int), Value.int IntKind.i64 (2147483647 : Int), Value.int IntKind.i64 (65535 : Int), Value.int IntKind.i64 (16384 : Int), Value.int IntKind.i64 (2147483647 : Int)]) = Value.agg (Array.mk [Value.int IntKind.i64 (4096 : Int), Value.int IntKind.i64 (2147483647 : Int), Value.int IntKind.i64 (65535 : Int), Value.int IntKind.i64 (16384 : Int), Value.int IntKind.i64 (2147483647 : Int)])) ∧
    ((Small (1 : Int) ∧ Small (6 : Int) ∧ (1 : Int) ≤ (6 : Int) ∧ wv (2 : Int) a (1 : Int) (6 : Int) = within a (1 : Int) (6 : Int)) ∧
    (br (valueC (wv (2 : Int) a (1 : Int) (6 : Int)) (wv (2 : Int) b (16384 : Int) (16777215 : Int)) == (1 : Int))
     (br (valueC (wv (2 : Int) a (7 : Int) (65535 : Int)) b == (0 : Int))
      ((True) ∧
      (End.ret (Value.bool true) = End.ret (Value.bool true)))
      (End.ret (Value.bool false) = End.ret (Value.bool true)))
     (End.ret (Value.bool false) = End.ret (Value.bool true))))))
    ((True) ∧
    ((Value.agg (Array.mk [Value.int IntKind.i64 (4096 : Int), Value.int IntKind.i64 (2147483647 : Int), Value.int IntKind.i64 (65535 : Int), Value.int IntKind.i64 (16384 : Int), Value.int IntKind.i64 (2147483647 : Int)]) = Value.agg (Array.mk [Value.int IntKind.i64 (4096 : Int), Value.int IntKind.i64 (2147483647 : Int), Value.int IntKind.i64 (65535 : Int), Value.int IntKind.i64 (16384 : Int), Value.int IntKind.i64 (2147483647 : Int)])) ∧
    ((Value.agg (Array.mk [Value.int IntKind.i64 (4096 : Int), Value.int IntKind.i64 (2147483647 : Int), Value.int IntKind.i64 (65535 : Int), Value.int IntKind.i64 (16384 : Int), Value.int IntKind.i64 (2147483647 : Int)]) = Value.agg (Array.mk [Value.int IntKind.i64 (4096 : Int), Value.int IntKind.i64 (2147483647 : Int), Value.int IntKind.i64 (65535 : Int), Value.int IntKind.i64 (16384 : Int), Value.int IntKind.i64 (2147483647 : Int)])) ∧
    ((Small (1 : Int) ∧ Small (6 : Int) ∧ (1 : Int) ≤ (6 : Int) ∧ wv (2 : Int) a (1 : Int) (6 : Int) = within a (1 : Int) (6 : Int)) ∧
    (br (valueC (wv (2 : Int) a (1 : Int) (6 : Int)) (wv (2 : Int) b (16384 : Int) (16777215 : Int)) == (1 : Int))
     (br (setV (1 : Int) (wv (2 : Int) a (7 : Int) (65535 : Int)) b (4096 : Int) == (4096 : Int) && (setV (3 : Int) (wv (2 : Int) a (7 : Int) (65535 : Int)) b (2147483647 : Int) == (2147483647 : Int) && (setV (4 : Int) (wv (2 : Int) a (7 : Int) (65535 : Int)) b (65535 : Int) == (65535 : Int) && (setV (5 : Int) (wv (2 : Int) a (7 : Int) (65535 : Int)) b (16384 : Int) == (16384 : Int) && (setV (6 : Int) (wv (2 : Int) a (7 : Int) (65535 : Int)) b (2147483647 : Int) == (2147483647 : Int) && true)))))
      ((True) ∧
      (End.ret (Value.bool true) = End.ret (Value.bool true)))
      (End.ret (Value.bool false) = End.ret (Value.bool true)))
     (End.ret (Value.bool false) = End.ret (Value.bool true))))))))))))
   ((True) ∧
   ((Value.agg (Array.mk [Value.int IntKind.i64 (4096 : Int), Value.int IntKind.i64 (2147483647 : Int), Value.int IntKind.i64 (65535 : Int), Value.int IntKind.i64 (16384 : Int), Value.int IntKind.i64 (2147483647 : Int)]) = Value.agg (Array.mk [Value.int IntKind.i64 (4096 : Int), Value.int IntKind.i64 (2147483647 : Int), Value.int IntKind.i64 (65535 : Int), Value.int IntKind.i64 (16384 : Int), Value.int IntKind.i64 (2147483647 : Int)])) ∧
   ((Value.agg (Array.mk [Value.int IntKind.i64 (4096 : Int), Value.int IntKind.i64 (2147483647 : Int), Value.int IntKind.i64 (65535 : Int), Value.int IntKind.i64 (16384 : Int), Value.int IntKind.i64 (2147483647 : Int)]) = Value.agg (Array.mk [Value.int IntKind.i64 (4096 : Int), Value.int IntKind.i64 (2147483647 : Int), Value.int IntKind.i64 (65535 : Int), Value.int IntKind.i64 (16384 : Int), Value.int IntKind.i64 (2147483647 : Int)])) ∧
   ((Small (7 : Int) ∧ Small (65535 : Int) ∧ (7 : Int) ≤ (65535 : Int) ∧ wv (2 : Int) a (7 : Int) (65535 : Int) = within a (7 : Int) (65535 : Int)) ∧
   ((True) ∧
   (br (valueC (wv (2 : Int) a (7 : Int) (65535 : Int)) b != (0 : Int))
    ((Value.agg (Array.mk [Value.int IntKind.i64 (4096 : Int), Value.int IntKind.i64 (2147483647 : Int), Value.int IntKind.i64 (65535 : Int), Value.int IntKind.i64 (16384 : Int), Value.int IntKind.i64 (2147483647 : Int)]) = Value.agg (Array.mk [Value.int IntKind.i64 (4096 : Int), Value.int IntKind.i64 (2147483647 : Int), Value.int IntKind.i64 (65535 : Int), Value.int IntKind.i64 (16384 : Int), Value.int IntKind.i64 (2147483647 : Int)])) ∧
    ((Value.agg (Array.mk [Value.int IntKind.i64 (4096 : Int), Value.int IntKind.i64 (2147483647 : Int), Value.int IntKind.i64 (65535 : Int), Value.int IntKind.i64 (16384 : Int), Value.int IntKind.i64 (2147483647 : Int)]) = Value.agg (Array.mk [Value.int IntKind.i64 (4096 : Int), Value.int IntKind.i64 (2147483647 : Int), Value.int IntKind.i64 (65535 : Int), Value.int IntKind.i64 (16384 : Int), Value.int IntKind.i64 (2147483647 : Int)])) ∧
    ((Small (1 : Int) ∧ Small (6 : Int) ∧ (1 : Int) ≤ (6 : Int) ∧ wv (2 : Int) a (1 : Int) (6 : Int) = within a (1 : Int) (6 : Int)) ∧
    (End.ret (Value.bool false) = End.ret (Value.bool true)))))
    ((True) ∧
    ((Value.agg (Array.mk [Value.int IntKind.i64 (4096 : Int), Value.int IntKind.i64 (2147483647 : Int), Value.int IntKind.i64 (65535 : Int), Value.int IntKind.i64 (16384 : Int), Value.int IntKind.i64 (2147483647 : Int)]) = Value.agg (Array.mk [Value.int IntKind.i64 (4096 : Int), Value.int IntKind.i64 (2147483647 : Int), Value.int IntKind.i64 (65535 : Int), Value.int IntKind.i64 (16384 : Int), Value.int IntKind.i64 (2147483647 : Int)])) ∧
    ((Value.agg (Array.mk [Value.int IntKind.i64 (4096 : Int), Value.int IntKind.i64 (2147483647 : Int), Value.int IntKind.i64 (65535 : Int), Value.int IntKind.i64 (16384 : Int), Value.int IntKind.i64 (2147483647 : Int)]) = Value.agg (Array.mk [Value.int IntKind.i64 (4096 : Int), Value.int IntKind.i64 (2147483647 : Int), Value.int IntKind.i64 (65535 : Int), Value.int IntKind.i64 (16384 : Int), Value.int IntKind.i64 (2147483647 : Int)])) ∧
    ((Small (1 : Int) ∧ Small (6 : Int) ∧ (1 : Int) ≤ (6 : Int) ∧ wv (2 : Int) a (1 : Int) (6 : Int) = within a (1 : Int) (6 : Int)) ∧
    (End.ret (Value.bool false) = End.ret (Value.bool true)))))))))))))))) := by kernel_rfl
theorem first3_vc (a b : Int) : scall (E1 3) 60 7 [.int .i64 a, .int .i64 b] ⟨.leaf, 0⟩ (fun r => r.1 = .ret (.bool true)) =
  ((Small (16384 : Int) ∧ Small (16777215 : Int) ∧ (16384 : Int) ≤ (16777215 : Int) ∧ wv (3 : Int) b (16384 : Int) (16777215 : Int) = within b (16384 : Int) (16777215 : Int)) ∧
  ((Small (1 : Int) ∧ Small (6 : Int) ∧ (1 : Int) ≤ (6 : Int) ∧ wv (3 : Int) a (1 : Int) (6 : Int) = within a (1 : Int) (6 : Int)) ∧
  ((True) ∧
  ((True) ∧
  ((Value.agg (Array.mk [Value.int IntKind.i64 (4096 : Int), Value.int IntKind.i64 (2147483647 : Int), Value.int IntKind.i64 (65535 : Int), Value.int IntKind.i64 (16384 : Int), Value.int IntKind.i64 (2147483647 : Int)]) = Value.agg (Array.mk [Value.int IntKind.i64 (4096 : Int), Value.int IntKind.i64 (2147483647 : Int), Value.int IntKind.i64 (65535 : Int), Value.int IntKind.i64 (16384 : Int), Value.int IntKind.i64 (2147483647 : Int)])) ∧
  ((Value.agg (Array.mk [Value.int IntKind.i64 (4096 : Int), Value.int IntKind.i64 (2147483647 : Int), Value.int IntKind.i64 (65535 : Int), Value.int IntKind.i64 (16384 : Int), Value.int IntKind.i64 (2147483647 : Int)]) = Value.agg (Array.mk [Value.int IntKind.i64 (4096 : Int), Value.int IntKind.i64 (2147483647 : Int), Value.int IntKind.i64 (65535 : Int), Value.int IntKind.i64 (16384 : Int), Value.int IntKind.i64 (2147483647 : Int)])) ∧
  ((Small (7 : Int) ∧ Small (65535 : Int) ∧ (7 : Int) ≤ (65535 : Int) ∧ wv (3 : Int) a (7 : Int) (65535 : Int) = within a (7 : Int) (65535 : Int)) ∧
  ((True) ∧
  (br (valueC (wv (3 : Int) a (7 : Int) (65535 : Int)) b != (0 : Int))
   ((Value.agg (Array.mk [Value.int IntKind.i64 (4096 : Int), Value.int IntKind.i64 (2147483647 : Int), Value.int IntKind.i64 (65535 : Int), Value.int IntKind.i64 (16384 : Int), Value.int IntKind.i64 (2147483647 : Int)]) = Value.agg (Array.mk [Value.int IntKind.i64 (4096 : Int), Value.int IntKind.i64 (2147483647 : Int), Value.int IntKind.i64 (65535 : Int), Value.int IntKind.i64 (16384 : Int), Value.int IntKind.i64 (2147483647 : Int)])) ∧
   ((Value.agg (Array.mk [Value.int IntKind.i64 (4096 : Int), Value.int IntKind.i64 (2147483647 : Int), Value.int IntKind.i64 (65535 : Int), Value.int IntKind.i64 (16384 : Int), Value.int IntKind.i64 (2147483647 : Int)]) = Value.agg (Array.mk [Value.int IntKind.i64 (4096 : Int), Value.int IntKind.i64 (2147483647 : Int), Value.int IntKind.i64 (65535 : Int), Value.int IntKind.i64 (16384 : Int), Value.int IntKind.i64 (2147483647 : Int)])) ∧
   ((Small (1 : Int) ∧ Small (6 : Int) ∧ (1 : Int) ≤ (6 : Int) ∧ wv (3 : Int) a (1 : Int) (6 : Int) = within a (1 : Int) (6 : Int)) ∧
   (br (setV (1 : Int) (wv (3 : Int) a (1 : Int) (6 : Int)) (wv (3 : Int) b (16384 : Int) (16777215 : Int)) (4096 : Int) == (4096 : Int) && (setV (3 : Int) (wv (3 : Int) a (1 : Int) (6 : Int)) (wv (3 : Int) b (16384 : Int) (16777215 : Int)) (2147483647 : Int) == wv (3 : Int) b (16384 : Int) (16777215 : Int) && (setV (4 : Int) (wv (3 : Int) a (1 : Int) (6 : Int)) (wv (3 : Int) b (16384 : Int) (16777215 : Int)) (65535 : Int) == (65535 : Int) && (setV (5 : Int) (wv (3 : Int) a (1 : Int) (6 : Int)) (wv (3 : Int) b (16384 : Int) (16777215 : Int)) (16384 : Int) == (16384 : Int) && (setV (6 : Int) (wv (3 : Int) a (1 : Int) (6 : Int)) (wv (3 : Int) b (16384 : Int) (16777215 : Int)) (2147483647 : Int) == (2147483647 : Int) && true)))))
    (br (valueC (wv (3 : Int) a (7 : Int) (65535 : Int)) b == (0 : Int))
     ((True) ∧
     (End.ret (Value.bool true) = End.ret (Value.bool true)))
     (End.ret (Value.bool false) = End.ret (Value.bool true)))
    (End.ret (Value.bool false) = End.ret (Value.bool true))))))
   ((True) ∧
   ((Value.agg (Array.mk [Value.int IntKind.i64 (4096 : Int), Value.int IntKind.i64 (2147483647 : Int), Value.int IntKind.i64 (65535 : Int), Value.int IntKind.i64 (16384 : Int), Value.int IntKind.i64 (2147483647 : Int)]) = Value.agg (Array.mk [Value.int IntKind.i64 (4096 : Int), Value.int IntKind.i64 (2147483647 : Int), Value.int IntKind.i64 (65535 : Int), Value.int IntKind.i64 (16384 : Int), Value.int IntKind.i64 (2147483647 : Int)])) ∧
   ((Value.agg (Array.mk [Value.int IntKind.i64 (4096 : Int), Value.int IntKind.i64 (2147483647 : Int), Value.int IntKind.i64 (65535 : Int), Value.int IntKind.i64 (16384 : Int), Value.int IntKind.i64 (2147483647 : Int)]) = Value.agg (Array.mk [Value.int IntKind.i64 (4096 : Int), Value.int IntKind.i64 (2147483647 : Int), Value.int IntKind.i64 (65535 : Int), Value.int IntKind.i64 (16384 : Int), Value.int IntKind.i64 (2147483647 : Int)])) ∧
   ((Small (1 : Int) ∧ Small (6 : Int) ∧ (1 : Int) ≤ (6 : Int) ∧ wv (3 : Int) a (1 : Int) (6 : Int) = within a (1 : Int) (6 : Int)) ∧
   (br (setV (1 : Int) (wv (3 : Int) a (1 : Int) (6 : Int)) (wv (3 : Int) b (16384 : Int) (16777215 : Int)) (4096 : Int) == (4096 : Int) && (setV (3 : Int) (wv (3 : Int) a (1 : Int) (6 : Int)) (wv (3 : Int) b (16384 : Int) (16777215 : Int)) (2147483647 : Int) == wv (3 : Int) b (16384 : Int) (16777215 : Int) && (setV (4 : Int) (wv (3 : Int) a (1 : Int) (6 : Int)) (wv (3 : Int) b (16384 : Int) (16777215 : Int)) (65535 : Int) == (65535 : Int) && (setV (5 : Int) (wv (3 : Int) a (1 : Int) (6 : Int)) (wv (3 : Int) b (16384 : Int) (16777215 : Int)) (16384 : Int) == (16384 : Int) && (setV (6 : Int) (wv (3 : Int) a (1 : Int) (6 : Int)) (wv (3 : Int) b (16384 : Int) (16777215 : Int)) (2147483647 : Int) == (2147483647 : Int) && true)))))
    (br (setV (1 : Int) (wv (3 : Int) a (7 : Int) (65535 : Int)) b (4096 : Int) == (4096 : Int) && (setV (3 : Int) (wv (3 : Int) a (7 : Int) (65535 : Int)) b (2147483647 : Int) == (2147483647 : Int) && (setV (4 : Int) (wv (3 : Int) a (7 : Int) (65535 : Int)) b (65535 : Int) == (65535 : Int) && (setV (5 : Int) (wv (3 : Int) a (7 : Int) (65535 : Int)) b (16384 : Int) == (16384 : Int) && (setV (6 : Int) (wv (3 : Int) a (7 : Int) (65535 : Int)) b (2147483647 : Int) == (2147483647 : Int) && true)))))
     ((True) ∧
     (End.ret (Value.bool true) = End.ret (Value.bool true)))
     (End.ret (Value.bool false) = End.ret (Value.bool true)))
    (End.ret (Value.bool false) = End.ret (Value.bool true)))))))))))))))) := by kernel_rfl
theorem first4_vc (a b : Int) : scall (E1 4) 60 7 [.int .i64 a, .int .i64 b] ⟨.leaf, 0⟩ (fun r => r.1 = .ret (.bool true)) =
  ((Small (16384 : Int) ∧ Small (16777215 : Int) ∧ (16384 : Int) ≤ (16777215 : Int) ∧ wv (4 : Int) b (16384 : Int) (16777215 : Int) = within b (16384 : Int) (16777215 : Int)) ∧
  ((Small (1 : Int) ∧ Small (6 : Int) ∧ (1 : Int) ≤ (6 : Int) ∧ wv (4 : Int) a (1 : Int) (6 : Int) = within a (1 : Int) (6 : Int)) ∧
  ((True) ∧
  (br (valueC (wv (4 : Int) a (1 : Int) (6 : Int)) (wv (4 : Int) b (16384 : Int) (16777215 : Int)) != (0 : Int))
   ((Value.agg (Array.mk [Value.int IntKind.i64 (4096 : Int), Value.int IntKind.i64 (2147483647 : Int), Value.int IntKind.i64 (65535 : Int), Value.int IntKind.i64 (16384 : Int), Value.int IntKind.i64 (2147483647 : Int)]) = Value.agg (Array.mk [Value.int IntKind.i64 (4096 : Int), Value.int IntKind.i64 (2147483647 : Int), Value.int IntKind.i64 (65535 : Int), Value.int IntKind.i64 (16384 : Int), Value.int IntKind.i64 (2147483647 : Int)])) ∧
   ((Value.agg (Array.mk [Value.int IntKind.i64 (4096 : Int), Value.int IntKind.i64 (2147483647 : Int), Value.int IntKind.i64 (65535 : Int), Value.int IntKind.i64 (16384 : Int), Value.int IntKind.i64 (2147483647 : Int)]) = Value.agg (Array.mk [Value.int IntKind.i64 (4096 : Int), Value.int IntKind.i64 (2147483647 : Int), Value.int IntKind.i64 (65535 : Int), Value.int IntKind.i64 (16384 : Int), Value.int IntKind.i64 (2147483647 : Int)])) ∧
   ((Small (7 : Int) ∧ Small (65535 : Int) ∧ (7 : Int) ≤ (65535 : Int) ∧ wv (4 : Int) a (7 : Int) (65535 : Int) = within a (7 : Int) (65535 : Int)) ∧
   ((True) ∧
   (br (valueC (wv (4 : Int) a (7 : Int) (65535 : Int)) b != (0 : Int))
    ((Value.agg (Array.mk [Value.int IntKind.i64 (4096 : Int), Value.int IntKind.i64 (2147483647 : Int), Value.int IntKind.i64 (65535 : Int), Value.int IntKind.i64 (16384 : Int), Value.int IntKind.i64 (2147483647 : Int)]) = Value.agg (Array.mk [Value.int IntKind.i64 (4096 : Int), Value.int IntKind.i64 (2147483647 : Int), Value.int IntKind.i64 (65535 : Int), Value.int IntKind.i64 (16384 : Int), Value.int IntKind.i64 (2147483647 : Int)])) ∧
    ((Value.agg (Array.mk [Value.int IntKind.i64 (4096 : Int), Value.int IntKind.i64 (2147483647 : Int), Value.int IntKind.i64 (65535 : Int), Value.int IntKind.i64 (16384 : Int), Value.int IntKind.i64 (2147483647 : Int)]) = Value.agg (Array.mk [Value.int IntKind.i64 (4096 : Int), Value.int IntKind.i64 (2147483647 : Int), Value.int IntKind.i64 (65535 : Int), Value.int IntKind.i64 (16384 : Int), Value.int IntKind.i64 (2147483647 : Int)])) ∧
    ((Small (1 : Int) ∧ Small (6 : Int) ∧ (1 : Int) ≤ (6 : Int) ∧ wv (4 : Int) a (1 : Int) (6 : Int) = within a (1 : Int) (6 : Int)) ∧
    (br (true && (true && ((65535 : Int) == wv (4 : Int) b (16384 : Int) (16777215 : Int) && true)))
     (br (valueC (wv (4 : Int) a (1 : Int) (6 : Int)) (wv (4 : Int) b (16384 : Int) (16777215 : Int)) == (0 : Int))
      (br (valueC (wv (4 : Int) a (7 : Int) (65535 : Int)) b == (0 : Int))
       ((True) ∧
       (End.ret (Value.bool true) = End.ret (Value.bool true)))
       (End.ret (Value.bool false) = End.ret (Value.bool true)))
      (End.ret (Value.bool false) = End.ret (Value.bool true)))
     (End.ret (Value.bool false) = End.ret (Value.bool true))))))
    ((True) ∧
    ((Value.agg (Array.mk [Value.int IntKind.i64 (4096 : Int), Value.int IntKind.i64 (2147483647 : Int), Value.int IntKind.i64 (65535 : Int), Value.int IntKind.i64 (16384 : Int), Value.int IntKind.i64 (2147483647 : Int)]) = Value.agg (Array.mk [Value.int IntKind.i64 (4096 : Int), Value.int IntKind.i64 (2147483647 : Int), Value.int IntKind.i64 (65535 : Int), Value.int IntKind.i64 (16384 : Int), Value.int IntKind.i64 (2147483647 : Int)])) ∧
    ((Value.agg (Array.mk [Value.int IntKind.i64 (4096 : Int), Value.int IntKind.i64 (2147483647 : Int), Value.int IntKind.i64 (65535 : Int), Value.int IntKind.i64 (16384 : Int), Value.int IntKind.i64 (2147483647 : Int)]) = Value.agg (Array.mk [Value.int IntKind.i64 (4096 : Int), Value.int IntKind.i64 (2147483647 : Int), Value.int IntKind.i64 (65535 : Int), Value.int IntKind.i64 (16384 : Int), Value.int IntKind.i64 (2147483647 : Int)])) ∧
    ((Small (1 : Int) ∧ Small (6 : Int) ∧ (1 : Int) ≤ (6 : Int) ∧ wv (4 : Int) a (1 : Int) (6 : Int) = within a (1 : Int) (6 : Int)) ∧
    (br (true && (true && ((65535 : Int) == wv (4 : Int) b (16384 : Int) (16777215 : Int) && true)))
     (br (valueC (wv (4 : Int) a (1 : Int) (6 : Int)) (wv (4 : Int) b (16384 : Int) (16777215 : Int)) == (0 : Int))
      (br (setV (1 : Int) (wv (4 : Int) a (7 : Int) (65535 : Int)) b (4096 : Int) == (4096 : Int) && (setV (3 : Int) (wv (4 : Int) a (7 : Int) (65535 : Int)) b (2147483647 : Int) == (2147483647 : Int) && (setV (4 : Int) (wv (4 : Int) a (7 : Int) (65535 : Int)) b (65535 : Int) == (65535 : Int) && (setV (5 : Int) (wv (4 : Int) a (7 : Int) (65535 : Int)) b (16384 : Int) == (16384 : Int) && (setV (6 : Int) (wv (4 : Int) a (7 : Int) (65535 : Int)) b (2147483647 : Int) == (2147483647 : Int) && true)))))
       ((True) ∧
       (End.ret (Value.bool true) = End.ret (Value.bool true)))
       (End.ret (Value.bool false) = End.ret (Value.bool true)))
      (End.ret (Value.bool false) = End.ret (Value.bool true)))
     (End.ret (Value.bool false) = End.ret (Value.bool true))))))))))))
   ((True) ∧
   ((Value.agg (Array.mk [Value.int IntKind.i64 (4096 : Int), Value.int IntKind.i64 (2147483647 : Int), Value.int IntKind.i64 (65535 : Int), Value.int IntKind.i64 (16384 : Int), Value.int IntKind.i64 (2147483647 : Int)]) = Value.agg (Array.mk [Value.int IntKind.i64 (4096 : Int), Value.int IntKind.i64 (2147483647 : Int), Value.int IntKind.i64 (65535 : Int), Value.int IntKind.i64 (16384 : Int), Value.int IntKind.i64 (2147483647 : Int)])) ∧
   ((Value.agg (Array.mk [Value.int IntKind.i64 (4096 : Int), Value.int IntKind.i64 (2147483647 : Int), Value.int IntKind.i64 (65535 : Int), Value.int IntKind.i64 (16384 : Int), Value.int IntKind.i64 (2147483647 : Int)]) = Value.agg (Array.mk [Value.int IntKind.i64 (4096 : Int), Value.int IntKind.i64 (2147483647 : Int), Value.int IntKind.i64 (65535 : Int), Value.int IntKind.i64 (16384 : Int), Value.int IntKind.i64 (2147483647 : Int)])) ∧
   ((Small (7 : Int) ∧ Small (65535 : Int) ∧ (7 : Int) ≤ (65535 : Int) ∧ wv (4 : Int) a (7 : Int) (65535 : Int) = within a (7 : Int) (65535 : Int)) ∧
   ((True) ∧
   (br (valueC (wv (4 : Int) a (7 : Int) (65535 : Int)) b != (0 : Int))
    ((Value.agg (Array.mk [Value.int IntKind.i64 (4096 : Int), Value.int IntKind.i64 (2147483647 : Int), Value.int IntKind.i64 (65535 : Int), Value.int IntKind.i64 (16384 : Int), Value.int IntKind.i64 (2147483647 : Int)]) = Value.agg (Array.mk [Value.int IntKind.i64 (4096 : Int), Value.int IntKind.i64 (2147483647 : Int), Value.int IntKind.i64 (65535 : Int), Value.int IntKind.i64 (16384 : Int), Value.int IntKind.i64 (2147483647 : Int)])) ∧
    ((Value.agg (Array.mk [Value.int IntKind.i64 (4096 : Int), Value.int IntKind.i64 (2147483647 : Int), Value.int IntKind.i64 (65535 : Int), Value.int IntKind.i64 (16384 : Int), Value.int IntKind.i64 (2147483647 : Int)]) = Value.agg (Array.mk [Value.int IntKind.i64 (4096 : Int), Value.int IntKind.i64 (2147483647 : Int), Value.int IntKind.i64 (65535 : Int), Value.int IntKind.i64 (16384 : Int), Value.int IntKind.i64 (2147483647 : Int)])) ∧
    ((Small (1 : Int) ∧ Small (6 : Int) ∧ (1 : Int) ≤ (6 : Int) ∧ wv (4 : Int) a (1 : Int) (6 : Int) = within a (1 : Int) (6 : Int)) ∧
    (br (setV (1 : Int) (wv (4 : Int) a (1 : Int) (6 : Int)) (wv (4 : Int) b (16384 : Int) (16777215 : Int)) (4096 : Int) == (4096 : Int) && (setV (3 : Int) (wv (4 : Int) a (1 : Int) (6 : Int)) (wv (4 : Int) b (16384 : Int) (16777215 : Int)) (2147483647 : Int) == (2147483647 : Int) && (setV (4 : Int) (wv (4 : Int) a (1 : Int) (6 : Int)) (wv (4 : Int) b (16384 : Int) (16777215 : Int)) (65535 : Int) == wv (4 : Int) b (16384 : Int) (16777215 : Int) && (setV (5 : Int) (wv (4 : Int) a (1 : Int) (6 : Int)) (wv (4 : Int) b (16384 : Int) (16777215 : Int)) (16384 : Int) == (16384 : Int) && (setV (6 : Int) (wv (4 : Int) a (1 : Int) (6 : Int)) (wv (4 : Int) b (16384 : Int) (16777215 : Int)) (2147483647 : Int) == (2147483647 : Int) && true)))))
     (br (valueC (wv (4 : Int) a (7 : Int) (65535 : Int)) b == (0 : Int))
      ((True) ∧
      (End.ret (Value.bool true) = End.ret (Value.bool true)))
      (End.ret (Value.bool false) = End.ret (Value.bool true)))
     (End.ret (Value.bool false) = End.ret (Value.bool true))))))
    ((True) ∧
    ((Value.agg (Array.mk [Value.int IntKind.i64 (4096 : Int), Value.int IntKind.i64 (2147483647 : Int), Value.int IntKind.i64 (65535 : Int), Value.int IntKind.i64 (16384 : Int), Value.int IntKind.i64 (2147483647 : Int)]) = Value.agg (Array.mk [Value.int IntKind.i64 (4096 : Int), Value.int IntKind.i64 (2147483647 : Int), Value.int IntKind.i64 (65535 : Int), Value.int IntKind.i64 (16384 : Int), Value.int IntKind.i64 (2147483647 : Int)])) ∧
    ((Value.agg (Array.mk [Value.int IntKind.i64 (4096 : Int), Value.int IntKind.i64 (2147483647 : Int), Value.int IntKind.i64 (65535 : Int), Value.int IntKind.i64 (16384 : Int), Value.int IntKind.i64 (2147483647 : Int)]) = Value.agg (Array.mk [Value.int IntKind.i64 (4096 : Int), Value.int IntKind.i64 (2147483647 : Int), Value.int IntKind.i64 (65535 : Int), Value.int IntKind.i64 (16384 : Int), Value.int IntKind.i64 (2147483647 : Int)])) ∧
    ((Small (1 : Int) ∧ Small (6 : Int) ∧ (1 : Int) ≤ (6 : Int) ∧ wv (4 : Int) a (1 : Int) (6 : Int) = within a (1 : Int) (6 : Int)) ∧
    (br (setV (1 : Int) (wv (4 : Int) a (1 : Int) (6 : Int)) (wv (4 : Int) b (16384 : Int) (16777215 : Int)) (4096 : Int) == (4096 : Int) && (setV (3 : Int) (wv (4 : Int) a (1 : Int) (6 : Int)) (wv (4 : Int) b (16384 : Int) (16777215 : Int)) (2147483647 : Int) == (2147483647 : Int) && (setV (4 : Int) (wv (4 : Int) a (1 : Int) (6 : Int)) (wv (4 : Int) b (16384 : Int) (16777215 : Int)) (65535 : Int) == wv (4 : Int) b (16384 : Int) (16777215 : Int) && (setV (5 : Int) (wv (4 : Int) a (1 : Int) (6 : Int)) (wv (4 : Int) b (16384 : Int) (16777215 : Int)) (16384 : Int) == (16384 : Int) && (setV (6 : Int) (wv (4 : Int) a (1 : Int) (6 : Int)) (wv (4 : Int) b (16384 : Int) (16777215 : Int)) (2147483647 : Int) == (2147483647 : Int) && true)))))
     (br (setV (1 : Int) (wv (4 : Int) a (7 : Int) (65535 : Int)) b (4096 : Int) == (4096 : Int) && (setV (3 : Int) (wv (4 : Int) a (7 : Int) (65535 : Int)) b (2147483647 : Int) == (2147483647 : Int) && (setV (4 : Int) (wv (4 : Int) a (7 : Int) (65535 : Int)) b (65535 : Int) == (65535 : Int) && (setV (5 : Int) (wv (4 : Int) a (7 : Int) (65535 : Int)) b (16384 : Int) == (16384 : Int) && (setV (6 : Int) (wv (4 : Int) a (7 : Int) (65535 : Int)) b (2147483647 : Int) == (2147483647 : Int) && true)))))
      ((True) ∧
      (End.ret (Value.bool true) = End.ret (Value.bool true)))
      (End.ret (Value.bool false) = End.ret (Value.bool true)))
     (End.ret (Value.bool false) = End.ret (Value.bool true))))))))))))))))) := by kernel_rfl
theorem first5_vc (a b : Int) : scall (E1 5) 60 7 [.int .i64 a, .int .i64 b] ⟨.leaf, 0⟩ (fun r => r.1 = .ret (.bool true)) =
  ((Small (16384 : Int) ∧ Small (16777215 : Int) ∧ (16384 : Int) ≤ (16777215 : Int) ∧ wv (5 : Int) b (16384 : Int) (16777215 : Int) = within b (16384 : Int) (16777215 : Int)) ∧
  ((Small (1 : Int) ∧ Small (6 : Int) ∧ (1 : Int) ≤ (6 : Int) ∧ wv (5 : Int) a (1 : Int) (6 : Int) = within a (1 : Int) (6 : Int)) ∧
  ((True) ∧
  (br (valueC (wv (5 : Int) a (1 : Int) (6 : Int)) (wv (5 : Int) b (16384 : Int) (16777215 : Int)) != (0 : Int))
   ((Value.agg (Array.mk [Value.int IntKind.i64 (4096 : Int), Value.int IntKind.i64 (2147483647 : Int), Value.int IntKind.i64 (65535 : Int), Value.int IntKind.i64 (16384 : Int), Value.int IntKind.i64 (2147483647 : Int)]) = Value.agg (Array.mk [Value.int IntKind.i64 (4096 : Int), Value.int IntKind.i64 (2147483647 : Int), Value.int IntKind.i64 (65535 : Int), Value.int IntKind.i64 (16384 : Int), Value.int IntKind.i64 (2147483647 : Int)])) ∧
   ((Value.agg (Array.mk [Value.int IntKind.i64 (4096 : Int), Value.int IntKind.i64 (2147483647 : Int), Value.int IntKind.i64 (65535 : Int), Value.int IntKind.i64 (16384 : Int), Value.int IntKind.i64 (2147483647 : Int)]) = Value.agg (Array.mk [Value.int IntKind.i64 (4096 : Int), Value.int IntKind.i64 (2147483647 : Int), Value.int IntKind.i64 (65535 : Int), Value.int IntKind.i64 (16384 : Int), Value.int IntKind.i64 (2147483647 : Int)])) ∧
   ((Small (7 : Int) ∧ Small (65535 : Int) ∧ (7 : Int) ≤ (65535 : Int) ∧ wv (5 : Int) a (7 : Int) (65535 : Int) = within a (7 : Int) (65535 : Int)) ∧
   ((True) ∧
   (br (valueC (wv (5 : Int) a (7 : Int) (65535 : Int)) b != (0 : Int))
    ((Value.agg (Array.mk [Value.int IntKind.i64 (4096 : Int), Value.int IntKind.i64 (2147483647 : Int), Value.int IntKind.i64 (65535 : Int), Value.int IntKind.i64 (16384 : Int), Value.int IntKind.i64 (2147483647 : Int)]) = Value.agg (Array.mk [Value.int IntKind.i64 (4096 : Int), Value.int IntKind.i64 (2147483647 : Int), Value.int IntKind.i64 (65535 : Int), Value.int IntKind.i64 (16384 : Int), Value.int IntKind.i64 (2147483647 : Int)])) ∧
    ((Value.agg (Array.mk [Value.int IntKind.i64 (4096 : Int), Value.int IntKind.i64 (2147483647 : Int), Value.int IntKind.i64 (65535 : Int), Value.int IntKind.i64 (16384 : Int), Value.int IntKind.i64 (2147483647 : Int)]) = Value.agg (Array.mk [Value.int IntKind.i64 (4096 : Int), Value.int IntKind.i64 (2147483647 : Int), Value.int IntKind.i64 (65535 : Int), Value.int IntKind.i64 (16384 : Int), Value.int IntKind.i64 (2147483647 : Int)])) ∧
    ((Small (1 : Int) ∧ Small (6 : Int) ∧ (1 : Int) ≤ (6 : Int) ∧ wv (5 : Int) a (1 : Int) (6 : Int) = within a (1 : Int) (6 : Int)) ∧
    (br (true && (true && (true && ((16384 : Int) == wv (5 : Int) b (16384 : Int) (16777215 : Int) && true))))
     (br (valueC (wv (5 : Int) a (1 : Int) (6 : Int)) (wv (5 : Int) b (16384 : Int) (16777215 : Int)) == (0 : Int))
      (br (valueC (wv (5 : Int) a (7 : Int) (65535 : Int)) b == (0 : Int))
       ((True) ∧
       (End.ret (Value.bool true) = End.ret (Value.bool true)))
       (End.ret (Value.bool false) = End.ret (Value.bool true)))
      (End.ret (Value.bool false) = End.ret (Value.bool true)))
     (End.ret (Value.bool false) = End.ret (Value.bool true))))))
    ((True) ∧
    ((Value.agg (Array.mk [Value.int IntKind.i64 (4096 : Int), Value.int IntKind.i64 (2147483647 : Int), Value.int IntKind.i64 (65535 : Int), Value.int IntKind.i64 (16384 : Int), Value.int IntKind.i64 (2147483647 : Int)]) = Value.agg (Array.mk [Value.int IntKind.i64 (4096 : Int), Value.int IntKind.i64 (2147483647 : Int), Value.int IntKind.i64 (65535 : Int), Value.int IntKind.i64 (16384 : Int), Value.int IntKind.i64 (2147483647 : Int)])) ∧
    ((Value.agg (Array.mk [Value.int IntKind.i64 (4096 : Int), Value.int IntKind.i64 (2147483647 : Int), Value.int IntKind.i64 (65535 : Int), Value.int IntKind.i64 (16384 : Int), Value.int IntKind.i64 (2147483647 : Int)]) = Value.agg (Array.mk [Value.int IntKind.i64 (4096 : Int), Value.int IntKind.i64 (2147483647 : Int), Value.int IntKind.i64 (65535 : Int), Value.int IntKind.i64 (16384 : Int), Value.int IntKind.i64 (2147483647 : Int)])) ∧
    ((Small (1 : Int) ∧ Small (6 : Int) ∧ (1 : Int) ≤ (6 : Int) ∧ wv (5 : Int) a (1 : Int) (6 : Int) = within a (1 : Int) (6 : Int)) ∧
    (br (true && (true && (true && ((16384 : Int) == wv (5 : Int) b (16384 : Int) (16777215 : Int) && true))))
     (br (valueC (wv (5 : Int) a (1 : Int) (6 : Int)) (wv (5 : Int) b (16384 : Int) (16777215 : Int)) == (0 : Int))
      (br (setV (1 : Int) (wv (5 : Int) a (7 : Int) (65535 : Int)) b (4096 : Int) == (4096 : Int) && (setV (3 : Int) (wv (5 : Int) a (7 : Int) (65535 : Int)) b (2147483647 : Int) == (2147483647 : Int) && (setV (4 : Int) (wv (5 : Int) a (7 : Int) (65535 : Int)) b (65535 : Int) == (65535 : Int) && (setV (5 : Int) (wv (5 : Int) a (7 : Int) (65535 : Int)) b (16384 : Int) == (16384 : Int) && (setV (6 : Int) (wv (5 : Int) a (7 : Int) (65535 : Int)) b (2147483647 : Int) == (2147483647 : Int) && true)))))
       ((True) ∧
       (End.ret (Value.bool true) = End.ret (Value.bool true)))
       (End.ret (Value.bool false) = End.ret (Value.bool true)))
      (End.ret (Value.bool false) = End.ret (Value.bool true)))
     (End.ret (Value.bool false) = End.ret (Value.bool true))))))))))))
   ((True) ∧
   ((Value.agg (Array.mk [Value.int IntKind.i64 (4096 : Int), Value.int IntKind.i64 (2147483647 : Int), Value.int IntKind.i64 (65535 : Int), Value.int IntKind.i64 (16384 : Int), Value.int IntKind.i64 (2147483647 : Int)]) = Value.agg (Array.mk [Value.int IntKind.i64 (4096 : Int), Value.int IntKind.i64 (2147483647 : Int), Value.int IntKind.i64 (65535 : Int), Value.int IntKind.i64 (16384 : Int), Value.int IntKind.i64 (2147483647 : Int)])) ∧
   ((Value.agg (Array.mk [Value.int IntKind.i64 (4096 : Int), Value.int IntKind.i64 (2147483647 : Int), Value.int IntKind.i64 (65535 : Int), Value.int IntKind.i64 (16384 : Int), Value.int IntKind.i64 (2147483647 : Int)]) = Value.agg (Array.mk [Value.int IntKind.i64 (4096 : Int), Value.int IntKind.i64 (2147483647 : Int), Value.int IntKind.i64 (65535 : Int), Value.int IntKind.i64 (16384 : Int), Value.int IntKind.i64 (2147483647 : Int)])) ∧
   ((Small (7 : Int) ∧ Small (65535 : Int) ∧ (7 : Int) ≤ (65535 : Int) ∧ wv (5 : Int) a (7 : Int) (65535 : Int) = within a (7 : Int) (65535 : Int)) ∧
   ((True) ∧
   (br (valueC (wv (5 : Int) a (7 : Int) (65535 : Int)) b != (0 : Int))
    ((Value.agg (Array.mk [Value.int IntKind.i64 (4096 : Int), Value.int IntKind.i64 (2147483647 : Int), Value.int IntKind.i64 (65535 : Int), Value.int IntKind.i64 (16384 : Int), Value.int IntKind.i64 (2147483647 : Int)]) = Value.agg (Array.mk [Value.int IntKind.i64 (4096 : Int), Value.int IntKind.i64 (2147483647 : Int), Value.int IntKind.i64 (65535 : Int), Value.int IntKind.i64 (16384 : Int), Value.int IntKind.i64 (2147483647 : Int)])) ∧
    ((Value.agg (Array.mk [Value.int IntKind.i64 (4096 : Int), Value.int IntKind.i64 (2147483647 : Int), Value.int IntKind.i64 (65535 : Int), Value.int IntKind.i64 (16384 : Int), Value.int IntKind.i64 (2147483647 : Int)]) = Value.agg (Array.mk [Value.int IntKind.i64 (4096 : Int), Value.int IntKind.i64 (2147483647 : Int), Value.int IntKind.i64 (65535 : Int), Value.int IntKind.i64 (16384 : Int), Value.int IntKind.i64 (2147483647 : Int)])) ∧
    ((Small (1 : Int) ∧ Small (6 : Int) ∧ (1 : Int) ≤ (6 : Int) ∧ wv (5 : Int) a (1 : Int) (6 : Int) = within a (1 : Int) (6 : Int)) ∧
    (br (setV (1 : Int) (wv (5 : Int) a (1 : Int) (6 : Int)) (wv (5 : Int) b (16384 : Int) (16777215 : Int)) (4096 : Int) == (4096 : Int) && (setV (3 : Int) (wv (5 : Int) a (1 : Int) (6 : Int)) (wv (5 : Int) b (16384 : Int) (16777215 : Int)) (2147483647 : Int) == (2147483647 : Int) && (setV (4 : Int) (wv (5 : Int) a (1 : Int) (6 : Int)) (wv (5 : Int) b (16384 : Int) (16777215 : Int)) (65535 : Int) == (65535 : Int) && (setV (5 : Int) (wv (5 : Int) a (1 : Int) (6 : Int)) (wv (5 : Int) b (16384 : Int) (16777215 : Int)) (16384 : Int) == wv (5 : Int) b (16384 : Int) (16777215 : Int) && (setV (6 : Int) (wv (5 : Int) a (1 : Int) (6 : Int)) (wv (5 : Int) b (16384 : Int) (16777215 : Int)) (2147483647 : Int) == (2147483647 : Int) && true)))))
     (br (valueC (wv (5 : Int) a (7 : Int) (65535 : Int)) b == (0 : Int))
      ((True) ∧
      (End.ret (Value.bool true) = End.ret (Value.bool true)))
      (End.ret (Value.bool false) = End.ret (Value.bool true)))
     (End.ret (Value.bool false) = End.ret (Value.bool true))))))
    ((True) ∧
    ((Value.agg (Array.mk [Value.int IntKind.i64 (4096 : Int), Value.int IntKind.i64 (2147483647 : Int), Value.int IntKind.i64 (65535 : Int), Value.int IntKind.i64 (16384 : Int), Value.int IntKind.i64 (2147483647 : Int)]) = Value.agg (Array.mk [Value.int IntKind.i64 (4096 : Int), Value.int IntKind.i64 (2147483647 : Int), Value.int IntKind.i64 (65535 : Int), Value.int IntKind.i64 (16384 : Int), Value.int IntKind.i64 (2147483647 : Int)])) ∧
    ((Value.agg (Array.mk [Value.int IntKind.i64 (4096 : Int), Value.int IntKind.i64 (2147483647 : Int), Value.int IntKind.i64 (65535 : Int), Value.int IntKind.i64 (16384 : Int), Value.int IntKind.i64 (2147483647 : Int)]) = Value.agg (Array.mk [Value.int IntKind.i64 (4096 : Int), Value.int IntKind.i64 (2147483647 : Int), Value.int IntKind.i64 (65535 : Int), Value.int IntKind.i64 (16384 : Int), Value.int IntKind.i64 (2147483647 : Int)])) ∧
    ((Small (1 : Int) ∧ Small (6 : Int) ∧ (1 : Int) ≤ (6 : Int) ∧ wv (5 : Int) a (1 : Int) (6 : Int) = within a (1 : Int) (6 : Int)) ∧
    (br (setV (1 : Int) (wv (5 : Int) a (1 : Int) (6 : Int)) (wv (5 : Int) b (16384 : Int) (16777215 : Int)) (4096 : Int) == (4096 : Int) && (setV (3 : Int) (wv (5 : Int) a (1 : Int) (6 : Int)) (wv (5 : Int) b (16384 : Int) (16777215 : Int)) (2147483647 : Int) == (2147483647 : Int) && (setV (4 : Int) (wv (5 : Int) a (1 : Int) (6 : Int)) (wv (5 : Int) b (16384 : Int) (16777215 : Int)) (65535 : Int) == (65535 : Int) && (setV (5 : Int) (wv (5 : Int) a (1 : Int) (6 : Int)) (wv (5 : Int) b (16384 : Int) (16777215 : Int)) (16384 : Int) == wv (5 : Int) b (16384 : Int) (16777215 : Int) && (setV (6 : Int) (wv (5 : Int) a (1 : Int) (6 : Int)) (wv (5 : Int) b (16384 : Int) (16777215 : Int)) (2147483647 : Int) == (2147483647 : Int) && true)))))
     (br (setV (1 : Int) (wv (5 : Int) a (7 : Int) (65535 : Int)) b (4096 : Int) == (4096 : Int) && (setV (3 : Int) (wv (5 : Int) a (7 : Int) (65535 : Int)) b (2147483647 : Int) == (2147483647 : Int) && (setV (4 : Int) (wv (5 : Int) a (7 : Int) (65535 : Int)) b (65535 : Int) == (65535 : Int) && (setV (5 : Int) (wv (5 : Int) a (7 : Int) (65535 : Int)) b (16384 : Int) == (16384 : Int) && (setV (6 : Int) (wv (5 : Int) a (7 : Int) (65535 : Int)) b (2147483647 : Int) == (2147483647 : Int) && true)))))
      ((True) ∧
      (End.ret (Value.bool true) = End.ret (Value.bool true)))
      (End.ret (Value.bool false) = End.ret (Value.bool true)))
     (End.ret (Value.bool false) = End.ret (Value.bool true))))))))))))))))) := by kernel_rfl
theorem first6_vc (a b : Int) : scall (E1 6) 60 7 [.int .i64 a, .int .i64 b] ⟨.leaf, 0⟩ (fun r => r.1 = .ret (.bool true)) =
  ((Small (16384 : Int) ∧ Small (16777215 : Int) ∧ (16384 : Int) ≤ (16777215 : Int) ∧ wv (6 : Int) b (16384 : Int) (16777215 : Int) = within b (16384 : Int) (16777215 : Int)) ∧
  ((Small (1 : Int) ∧ Small (6 : Int) ∧ (1 : Int) ≤ (6 : Int) ∧ wv (6 : Int) a (1 : Int) (6 : Int) = within a (1 : Int) (6 : Int)) ∧
  ((True) ∧
  ((True) ∧
  ((Value.agg (Array.mk [Value.int IntKind.i64 (4096 : Int), Value.int IntKind.i64 (2147483647 : Int), Value.int IntKind.i64 (65535 : Int), Value.int IntKind.i64 (16384 : Int), Value.int IntKind.i64 (2147483647 : Int)]) = Value.agg (Array.mk [Value.int IntKind.i64 (4096 : Int), Value.int IntKind.i64 (2147483647 : Int), Value.int IntKind.i64 (65535 : Int), Value.int IntKind.i64 (16384 : Int), Value.int IntKind.i64 (2147483647 : Int)])) ∧
  ((Value.agg (Array.mk [Value.int IntKind.i64 (4096 : Int), Value.int IntKind.i64 (2147483647 : Int), Value.int IntKind.i64 (65535 : Int), Value.int IntKind.i64 (16384 : Int), Value.int IntKind.i64 (2147483647 : Int)]) = Value.agg (Array.mk [Value.int IntKind.i64 (4096 : Int), Value.int IntKind.i64 (2147483647 : Int), Value.int IntKind.i64 (65535 : Int), Value.int IntKind.i64 (16384 : Int), Value.int IntKind.i64 (2147483647 : Int)])) ∧
  ((Small (7 : Int) ∧ Small (65535 : Int) ∧ (7 : Int) ≤ (65535 : Int) ∧ wv (6 : Int) a (7 : Int) (65535 : Int) = within a (7 : Int) (65535 : Int)) ∧
  ((True) ∧
  (br (valueC (wv (6 : Int) a (7 : Int) (65535 : Int)) b != (0 : Int))
   ((Value.agg (Array.mk [Value.int IntKind.i64 (4096 : Int), Value.int IntKind.i64 (2147483647 : Int), Value.int IntKind.i64 (65535 : Int), Value.int IntKind.i64 (16384 : Int), Value.int IntKind.i64 (2147483647 : Int)]) = Value.agg (Array.mk [Value.int IntKind.i64 (4096 : Int), Value.int IntKind.i64 (2147483647 : Int), Value.int IntKind.i64 (65535 : Int), Value.int IntKind.i64 (16384 : Int), Value.int IntKind.i64 (2147483647 : Int)])) ∧
   ((Value.agg (Array.mk [Value.int IntKind.i64 (4096 : Int), Value.int IntKind.i64 (2147483647 : Int), Value.int IntKind.i64 (65535 : Int), Value.int IntKind.i64 (16384 : Int), Value.int IntKind.i64 (2147483647 : Int)]) = Value.agg (Array.mk [Value.int IntKind.i64 (4096 : Int), Value.int IntKind.i64 (2147483647 : Int), Value.int IntKind.i64 (65535 : Int), Value.int IntKind.i64 (16384 : Int), Value.int IntKind.i64 (2147483647 : Int)])) ∧
   ((Small (1 : Int) ∧ Small (6 : Int) ∧ (1 : Int) ≤ (6 : Int) ∧ wv (6 : Int) a (1 : Int) (6 : Int) = within a (1 : Int) (6 : Int)) ∧
   (br (setV (1 : Int) (wv (6 : Int) a (1 : Int) (6 : Int)) (wv (6 : Int) b (16384 : Int) (16777215 : Int)) (4096 : Int) == (4096 : Int) && (setV (3 : Int) (wv (6 : Int) a (1 : Int) (6 : Int)) (wv (6 : Int) b (16384 : Int) (16777215 : Int)) (2147483647 : Int) == (2147483647 : Int) && (setV (4 : Int) (wv (6 : Int) a (1 : Int) (6 : Int)) (wv (6 : Int) b (16384 : Int) (16777215 : Int)) (65535 : Int) == (65535 : Int) && (setV (5 : Int) (wv (6 : Int) a (1 : Int) (6 : Int)) (wv (6 : Int) b (16384 : Int) (16777215 : Int)) (16384 : Int) == (16384 : Int) && (setV (6 : Int) (wv (6 : Int) a (1 : Int) (6 : Int)) (wv (6 : Int) b (16384 : Int) (16777215 : Int)) (2147483647 : Int) == wv (6 : Int) b (16384 : Int) (16777215 : Int) && true)))))
    (br (valueC (wv (6 : Int) a (7 : Int) (65535 : Int)) b == (0 : Int))
     ((True) ∧
     (End.ret (Value.bool true) = End.ret (Value.bool true)))
     (End.ret (Value.bool false) = End.ret (Value.bool true)))
    (End.ret (Value.bool false) = End.ret (Value.bool true))))))
   ((True) ∧
   ((Value.agg (Array.mk [Value.int IntKind.i64 (4096 : Int), Value.int IntKind.i64 (2147483647 : Int), Value.int IntKind.i64 (65535 : Int), Value.int IntKind.i64 (16384 : Int), Value.int IntKind.i64 (2147483647 : Int)]) = Value.agg (Array.mk [Value.int IntKind.i64 (4096 : Int), Value.int IntKind.i64 (2147483647 : Int), Value.int IntKind.i64 (65535 : Int), Value.int IntKind.i64 (16384 : Int), Value.int IntKind.i64 (2147483647 : Int)])) ∧
   ((Value.agg (Array.mk [Value.int IntKind.i64 (4096 : Int), Value.int IntKind.i64 (2147483647 : Int), Value.int IntKind.i64 (65535 : Int), Value.int IntKind.i64 (16384 : Int), Value.int IntKind.i64 (2147483647 : Int)]) = Value.agg (Array.mk [Value.int IntKind.i64 (4096 : Int), Value.int IntKind.i64 (2147483647 : Int), Value.int IntKind.i64 (65535 : Int), Value.int IntKind.i64 (16384 : Int), Value.int IntKind.i64 (2147483647 : Int)])) ∧
   ((Small (1 : Int) ∧ Small (6 : Int) ∧ (1 : Int) ≤ (6 : Int) ∧ wv (6 : Int) a (1 : Int) (6 : Int) = within a (1 : Int) (6 : Int)) ∧
   (br (setV (1 : Int) (wv (6 : Int) a (1 : Int) (6 : Int)) (wv (6 : Int) b (16384 : Int) (16777215 : Int)) (4096 : Int) == (4096 : Int) && (setV (3 : Int) (wv (6 : Int) a (1 : Int) (6 : Int)) (wv (6 : Int) b (16384 : Int) (16777215 : Int)) (2147483647 : Int) == (2147483647 : Int) && (setV (4 : Int) (wv (6 : Int) a (1 : Int) (6 : Int)) (wv (6 : Int) b (16384 : Int) (16777215 : Int)) (65535 : Int) == (65535 : Int) && (setV (5 : Int) (wv (6 : Int) a (1 : Int) (6 : Int)) (wv (6 : Int) b (16384 : Int) (16777215 : Int)) (16384 : Int) == (16384 : Int) && (setV (6 : Int) (wv (6 : Int) a (1 : Int) (6 : Int)) (wv (6 : Int) b (16384 : Int) (16777215 : Int)) (2147483647 : Int) == wv (6 : Int) b (16384 : Int) (16777215 : Int) && true)))))
    (br (setV (1 : Int) (wv (6 : Int) a (7 : Int) (65535 : Int)) b (4096 : Int) == (4096 : Int) && (setV (3 : Int) (wv (6 : Int) a (7 : Int) (65535 : Int)) b (2147483647 : Int) == (2147483647 : Int) && (setV (4 : Int) (wv (6 : Int) a (7 : Int) (65535 : Int)) b (65535 : Int) == (65535 : Int) && (setV (5 : Int) (wv (6 : Int) a (7 : Int) (65535 : Int)) b (16384 : Int) == (16384 : Int) && (setV (6 : Int) (wv (6 : Int) a (7 : Int) (65535 : Int)) b (2147483647 : Int) == (2147483647 : Int) && true)))))
     ((True) ∧
     (End.ret (Value.bool true) = End.ret (Value.bool true)))
     (End.ret (Value.bool false) = End.ret (Value.bool true)))
    (End.ret (Value.bool false) = End.ret (Value.bool true)))))))))))))))) := by kernel_rfl

theorem within_ok (n lo hi : Int) (hlo : Small lo) (hhi : Small hi) (h : lo ≤ hi) : Flat Try.prog 18 [.int .i64 n, .int .i64 lo, .int .i64 hi] (.int .i64 (within n lo hi)) :=
  within_flat (E := E0) mixed (calls_bare _) (lok_bare _) (by kernel_rfl) within_vc n lo hi hlo hhi h

theorem runs : Flat Try.prog 3 [] (.bool true) := fun w => run_closed mixed (by kernel_rfl) (args := []) rfl rfl (show ret? (Ev.run Try.prog 1000000 3 [] ⟨.leaf, 0⟩) = some (.bool true) by kernel_rfl) w

theorem value_ok (id v : Int) : Flat Try.prog 11 [.agg #[.int .i64 id, .int .i64 v]] (.int .i64 (valueC id v)) := by
  refine flat_vc (E := E0) mixed (calls_bare _) (lok_bare _) (by kernel_rfl) rfl rfl (value_vc id v _) ?_
  unfold valueC
  (repeat' (refine br_intro (fun h => ?_) (fun h => ?_))) <;> simp only [*, cond_true, cond_false, Bool.and_true, Bool.and_false, Bool.false_and, Bool.true_or, Bool.or_true, Bool.or_false]

theorem clamp_if (v : Int) : (if (2147483647 : Int) < if (0 : Int) > v then (0 : Int) else v then (2147483647 : Int) else if (0 : Int) > v then (0 : Int) else v) = clampV v := by
  unfold clampV
  by_cases h1 : v < 0 <;> by_cases h2 : v > 2147483647 <;> simp [h1, h2] <;> omega

theorem set_ok (a b c d e id v : Int) : Flat Try.prog 21 [.agg #[.int .i64 a, .int .i64 b, .int .i64 c, .int .i64 d, .int .i64 e], .agg #[.int .i64 id, .int .i64 v]]
    (.agg #[.int .i64 (setV 1 id v a), .int .i64 (setV 3 id v b), .int .i64 (setV 4 id v c), .int .i64 (setV 5 id v d), .int .i64 (setV 6 id v e)]) := by
  refine flat_vc (E := E0) mixed (calls_bare _) (lok_bare _) (by kernel_rfl) rfl rfl (set_vc a b c d e id v _) ?_
  simp only [clamp_if]
  unfold setV
  (repeat' (refine br_intro (fun h => ?_) (fun h => ?_))) <;> first | (simp only [*, cond_false]; done) | (have e := eq_of_beq h; subst e; rfl)

theorem calls1 (c : Int) : CallsOk (E1 c).P (oOf (E1 c)) := by
  refine calls_flat fun f a h p v h' e hp => ?_
  change T1 c f a h = _ at e
  unfold T1 at e
  split at e <;> simp only [Option.some.injEq, Prod.mk.injEq, reduceCtorEq] at e <;> obtain ⟨rfl, rfl, rfl⟩ := e
  · exact ⟨rfl, rfl, rfl, runs⟩
  · exact ⟨rfl, rfl, rfl, value_ok _ _⟩
  · exact ⟨rfl, rfl, rfl, set_ok _ _ _ _ _ _ _⟩
  · exact ⟨rfl, rfl, rfl, by rw [hp.2.2.2]; exact within_ok _ _ _ hp.1 hp.2.1 hp.2.2.1⟩

theorem first (a b : Int) (_ : I64 a) (_ : I64 b) : Flat Try.prog 7 [.int .i64 a, .int .i64 b] (.bool true) := by
  have h1 := within_bd a 1 6 (by omega)
  have h2 := within_bd a 7 65535 (by omega)
  have h3 := within_bd b 16384 16777215 (by omega)
  have s : ∀ x : Int, 1 ≤ x → x ≤ 16777215 → Small x := fun x _ _ => by unfold Small; omega
  have k1 := s 1 (by omega) (by omega)
  have k6 := s 6 (by omega) (by omega)
  have k7 := s 7 (by omega) (by omega)
  have k65 := s 65535 (by omega) (by omega)
  have kA := s 16384 (by omega) (by omega)
  have kB := s 16777215 (by omega) (by omega)
  have hc : within a 1 6 = 1 ∨ within a 1 6 = 2 ∨ within a 1 6 = 3 ∨ within a 1 6 = 4 ∨ within a 1 6 = 5 ∨ within a 1 6 = 6 := by omega
  have wm : ∀ c, wv c a 7 65535 = within a 7 65535 := fun c => rfl
  have wn : ∀ c, wv c b 16384 16777215 = within b 16384 16777215 := fun c => rfl
  have wk : ∀ c, wv c a 1 6 = c := fun c => rfl
  have big : ∀ i : Int, i < 7 → (within a 7 65535 == i) = false := fun i hi => by
    rw [beq_eq_false_iff_ne]; omega
  have m0 : valueC (within a 7 65535) b = 0 := by
    simp only [valueC, big 2 (by omega), big 4 (by omega), big 5 (by omega), cond_false]
  have ms : ∀ i x : Int, i < 7 → setV i (within a 7 65535) b x = x := fun i x hi => by
    simp only [setV, big i hi, cond_false]
  generalize hm : within a 7 65535 = m at *
  generalize hn : within b 16384 16777215 = n at *
  have cn : clampV n = n := by
    have e1 : decide (n < 0) = false := by simp; omega
    have e2 : decide (n > 2147483647) = false := by simp; omega
    simp only [clampV, e1, e2, cond_false]
  have v4 : valueC 4 n = 0 := by
    have e1 : decide (n < 0) = false := by simp; omega
    have e2 : decide (n > 2147483647) = false := by simp; omega
    simp [valueC, e1, e2]
  have v5 : valueC 5 n = 0 := by
    have e1 : decide (n < 16384) = false := by simp; omega
    have e2 : decide (n > 16777215) = false := by simp; omega
    simp [valueC, e1, e2]
  have v2 : valueC 2 n = 1 := by
    have e1 : (n != 0) = true := by simp; omega
    have e2 : (n != 1) = true := by simp; omega
    simp [valueC, e1, e2]
  have m1 := fun x => ms 1 x (by omega)
  have m3 := fun x => ms 3 x (by omega)
  have m4 := fun x => ms 4 x (by omega)
  have m5 := fun x => ms 5 x (by omega)
  have m6 := fun x => ms 6 x (by omega)
  rcases hc with e | e | e | e | e | e
  · refine flat_vc (E := E1 1) mixed (calls1 1) (lok_with _ _) (by kernel_rfl) rfl rfl (first1_vc a b) ?_
    simp only [wm, wn, wk, m0, m1, m3, m4, m5, m6, hm, hn, e]
    simp [br, k1, k6, k7, k65, kA, kB, setV, cn]
  · refine flat_vc (E := E1 2) mixed (calls1 2) (lok_with _ _) (by kernel_rfl) rfl rfl (first2_vc a b) ?_
    simp only [wm, wn, wk, m0, m1, m3, m4, m5, m6, hm, hn, e]
    simp [br, k1, k6, k7, k65, kA, kB, v2]
  · refine flat_vc (E := E1 3) mixed (calls1 3) (lok_with _ _) (by kernel_rfl) rfl rfl (first3_vc a b) ?_
    simp only [wm, wn, wk, m0, m1, m3, m4, m5, m6, hm, hn, e]
    simp [br, k1, k6, k7, k65, kA, kB, setV, cn]
  · refine flat_vc (E := E1 4) mixed (calls1 4) (lok_with _ _) (by kernel_rfl) rfl rfl (first4_vc a b) ?_
    simp only [wm, wn, wk, m0, m1, m3, m4, m5, m6, hm, hn, e]
    simp [br, k1, k6, k7, k65, kA, kB, v4, setV, cn]
  · refine flat_vc (E := E1 5) mixed (calls1 5) (lok_with _ _) (by kernel_rfl) rfl rfl (first5_vc a b) ?_
    simp only [wm, wn, wk, m0, m1, m3, m4, m5, m6, hm, hn, e]
    simp [br, k1, k6, k7, k65, kA, kB, v5, setV, cn]
  · refine flat_vc (E := E1 6) mixed (calls1 6) (lok_with _ _) (by kernel_rfl) rfl rfl (first6_vc a b) ?_
    simp only [wm, wn, wk, m0, m1, m3, m4, m5, m6, hm, hn, e]
    simp [br, k1, k6, k7, k65, kA, kB, setV, cn]
end Go.Proofs.Ytocehonfnpjcjaa.w
