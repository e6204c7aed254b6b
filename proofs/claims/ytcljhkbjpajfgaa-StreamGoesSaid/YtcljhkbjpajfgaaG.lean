/- The law on events that are gone through. No condition. -/
import Derived.Test.YtcljhkbjpajfgaaSy3
import Derived.Test.YtcljhkbjpajfgaaRows
namespace Go.Proofs.Ytcljhkbjpajfgaa.g
open Go Go.Ev Go.Sy Go.RowKit

def side (e : Int) : Int := bif decide (e > 10) then 2 else 3
def plainE (e : Int) : Int := bif decide (e > 10) then e - 10 else e
def nextP (s e : Int) : Int × Bool :=
  if plainE e < 1 ∨ plainE e > 5 then (s, false)
  else if s = 0 then (if plainE e = 2 then (1, true) else if plainE e = 1 then (side e, true) else (0, false))
  else if s = 1 then (if plainE e = 5 then (4, true) else if plainE e = 1 ∨ plainE e = 3 then (side e, true) else (1, true))
  else if s = 2 ∨ s = 3 then (if plainE e = 5 then (4, true) else if s = side e then (s, false) else if plainE e = 1 ∨ plainE e = 3 then (4, true) else (s, true))
  else (s, false)
def nextS (s e : Int) : Int := (nextP s e).1
def nextOk (s e : Int) : Bool := (nextP s e).2
def runL : Int → List Int → Int × Nat
  | s, [] => (s, 0)
  | s, e :: r => if nextOk s e = true then ((runL (nextS s e) r).1, (runL (nextS s e) r).2 + 1) else (s, 0)
def intOf (v : Value) : Int := match v with | .int _ n => n | _ => 0
def seg (cells : List Value) (k n : Nat) : List Int := ((cells.drop k).take n).map intOf
def runS (s : Int) (l : List Int) : Int := (runL s l).1
def runN (s : Int) (l : List Int) : Int := ((runL s l).2 : Int)
def T1 (f : FuncId) (args : List Value) (h : Hp) : Option (Prop × Value × Hp) :=
  match f, args with
  | 12, [.int .i64 s, .int .i64 e] => some (I64 e, .tuple #[.int .i64 (nextS s e), .bool (nextOk s e)], h)
  | _, _ => none
def Ok10 (cells : List Value) (k n : Nat) : Prop := ∃ xs : List Int, cells = xs.map (Value.int .i64) ∧ (∀ x ∈ xs, I64 x) ∧ k + n ≤ xs.length ∧ xs.length ≤ maxLen
def T2 (f : FuncId) (args : List Value) (h : Hp) : Option (Prop × Value × Hp) :=
  match f, args with
  | 3, [] => some (True, .bool true, h)
  | 10, [.int .i64 s, .slice none 0 0] => some (True, .tuple #[.int .i64 s, .int .i64 0], h)
  | 10, [.int .i64 s, .slice (some ⟨r, k, none⟩) n 1] =>
    match h.rows.find r with
    | some ⟨cells, _, .cells⟩ => some (Ok10 cells k n, .tuple #[.int .i64 (runS s (seg cells k n)), .int .i64 (runN s (seg cells k n))], h)
    | _ => none
  | 11, [.int .i64 s, .int .i64 e] => some (I64 e, .tuple #[.int .i64 (nextS s e), .bool (nextOk s e)], h)
  | _, _ => none
noncomputable abbrev E0 : Env := bare Try.prog
noncomputable abbrev E1 : Env := { P := Try.prog, T := T1, L := fun _ _ => none, sy := fun r => Nat.beq r 0 }
noncomputable abbrev E3 : Env := { P := Try.prog, T := T2, L := fun _ _ => none, sy := fun r => Nat.beq r 0 }
def hpM (xs : List Int) : Hp := ⟨ofR [xs.map (Value.int .i64)] 0 .leaf, 1⟩
def slc (n : Nat) : Value := .slice (some ⟨0, 0, none⟩) n 1
def p10 : List Nat := [0, 1, 0, 1]
def ov10 (n : Nat) (k s : Int) : Tr Value := mkOv [(0, .int .i64 s), (1, slc n), (10, slc n), (11, .int .i64 n), (12, .int .i64 k)]
def spec10 (xs : List Int) (s : Int) : Sy.Spec := fun fr u h K =>
  fr.tm.find 0 = some (.int .i64 s) ∧ fr.tm.find 1 = some (slc xs.length) ∧ fr.tm.find 10 = some (slc xs.length) ∧ fr.tm.find 11 = some (.int .i64 xs.length) ∧ fr.tm.find 12 = some (.int .i64 0) ∧ fr.nt = 32 ∧ fr.df = [] ∧ u = none ∧ h = hpM xs ∧
    br (runN s xs == xs.length) (K (.exit 0, ⟨mkOv [(0, .int .i64 (runS s xs)), (1, slc xs.length)], 32, []⟩, none, hpM xs)) (K (.ret, ⟨mkOv [(4, .int .i64 (runS s xs)), (5, .int .i64 (runN s xs))], 32, []⟩, none, hpM xs))
noncomputable abbrev E2 (xs : List Int) (s : Int) : Env := { P := Try.prog, T := T1, L := fun f p => bif Nat.beq f 10 && decide (p = p10) then some (spec10 xs s) else none, sy := fun r => Nat.beq r 0 }
def p4 : List Nat := [0, 0, 1, 1, 1, 1]
def ov4 (n : Nat) (k s x5 x6 : Int) : Tr Value := mkOv [(1, slc n), (5, .int .i64 x5), (6, .int .i64 x6), (7, .int .i64 s), (8, .int .i64 k)]
def spec4 (xs : List Int) : Sy.Spec := fun fr u h K =>
  ∃ (n : Nat) (t : Int) (a : Int) (b : Int), n ≤ xs.length ∧ fr.tm.find 1 = some (slc n) ∧ fr.tm.find 5 = some (.int .i64 a) ∧ fr.tm.find 6 = some (.int .i64 b) ∧ fr.tm.find 7 = some (.int .i64 t) ∧ fr.tm.find 8 = some (.int .i64 0) ∧ fr.nt = 52 ∧ fr.df = [] ∧ u = none ∧ h = hpM xs ∧
    K (.exit 0, ⟨mkOv [(5, .int .i64 a), (6, .int .i64 b), (7, .int .i64 (runS t (xs.take n))), (8, .int .i64 (runN t (xs.take n)))], 52, []⟩, none, hpM xs)
noncomputable abbrev E4 (xs : List Int) : Env := { P := Try.prog, T := T2, L := fun f p => bif Nat.beq f 4 && decide (p = p4) then some (spec4 xs) else none, sy := fun r => Nat.beq r 0 }
theorem mixed : Try.prog.follows .mixedOrders = true := by kernel_rfl
theorem next_vc (s e : Int) (v : Value) : scall E0 60 12 [.int .i64 s, .int .i64 e] ⟨.leaf, 0⟩ (fun r => r.1 = .ret v) =
  (br (decide (e > (10 : Int)))
   (br (decide (IntKind.wrap IntKind.i64 (e - (10 : Int)) < (1 : Int)))
    (End.ret (Value.tuple (Array.mk [Value.int IntKind.i64 s, Value.bool false])) = End.ret v)
    (br (decide (IntKind.wrap IntKind.i64 (e - (10 : Int)) > (5 : Int)))
     (End.ret (Value.tuple (Array.mk [Value.int IntKind.i64 s, Value.bool false])) = End.ret v)
     (br (s == (0 : Int))
      (br (IntKind.wrap IntKind.i64 (e - (10 : Int)) == (2 : Int))
       (End.ret (Value.tuple (Array.mk [Value.int IntKind.i64 (1 : Int), Value.bool true])) = End.ret v)
       (br (IntKind.wrap IntKind.i64 (e - (10 : Int)) == (1 : Int))
        (End.ret (Value.tuple (Array.mk [Value.int IntKind.i64 (2 : Int), Value.bool true])) = End.ret v)
        (End.ret (Value.tuple (Array.mk [Value.int IntKind.i64 (0 : Int), Value.bool false])) = End.ret v)))
      (br (s == (1 : Int))
       (br (IntKind.wrap IntKind.i64 (e - (10 : Int)) == (5 : Int))
        (End.ret (Value.tuple (Array.mk [Value.int IntKind.i64 (4 : Int), Value.bool true])) = End.ret v)
        (br (IntKind.wrap IntKind.i64 (e - (10 : Int)) == (1 : Int))
         (End.ret (Value.tuple (Array.mk [Value.int IntKind.i64 (2 : Int), Value.bool true])) = End.ret v)
         (br (IntKind.wrap IntKind.i64 (e - (10 : Int)) == (3 : Int))
          (End.ret (Value.tuple (Array.mk [Value.int IntKind.i64 (2 : Int), Value.bool true])) = End.ret v)
          (End.ret (Value.tuple (Array.mk [Value.int IntKind.i64 (1 : Int), Value.bool true])) = End.ret v))))
       (br (s == (2 : Int))
        (br (IntKind.wrap IntKind.i64 (e - (10 : Int)) == (5 : Int))
         (End.ret (Value.tuple (Array.mk [Value.int IntKind.i64 (4 : Int), Value.bool true])) = End.ret v)
         (br (s == (2 : Int))
          (End.ret (Value.tuple (Array.mk [Value.int IntKind.i64 s, Value.bool false])) = End.ret v)
          (br (IntKind.wrap IntKind.i64 (e - (10 : Int)) == (1 : Int))
           (End.ret (Value.tuple (Array.mk [Value.int IntKind.i64 (4 : Int), Value.bool true])) = End.ret v)
           (br (IntKind.wrap IntKind.i64 (e - (10 : Int)) == (3 : Int))
            (End.ret (Value.tuple (Array.mk [Value.int IntKind.i64 (4 : Int), Value.bool true])) = End.ret v)
            (End.ret (Value.tuple (Array.mk [Value.int IntKind.i64 s, Value.bool true])) = End.ret v)))))
        (br (s == (3 : Int))
         (br (IntKind.wrap IntKind.i64 (e - (10 : Int)) == (5 : Int))
          (End.ret (Value.tuple (Array.mk [Value.int IntKind.i64 (4 : Int), Value.bool true])) = End.ret v)
          (br (s == (2 : Int))
           (End.ret (Value.tuple (Array.mk [Value.int IntKind.i64 s, Value.bool false])) = End.ret v)
           (br (IntKind.wrap IntKind.i64 (e - (10 : Int)) == (1 : Int))
            (End.ret (Value.tuple (Array.mk [Value.int IntKind.i64 (4 : Int), Value.bool true])) = End.ret v)
            (br (IntKind.wrap IntKind.i64 (e - (10 : Int)) == (3 : Int))
             (End.ret (Value.tuple (Array.mk [Value.int IntKind.i64 (4 : Int), Value.bool true])) = End.ret v)
             (End.ret (Value.tuple (Array.mk [Value.int IntKind.i64 s, Value.bool true])) = End.ret v)))))
         (End.ret (Value.tuple (Array.mk [Value.int IntKind.i64 s, Value.bool false])) = End.ret v)))))))
   (br (decide (e < (1 : Int)))
    (End.ret (Value.tuple (Array.mk [Value.int IntKind.i64 s, Value.bool false])) = End.ret v)
    (br (decide (e > (5 : Int)))
     (End.ret (Value.tuple (Array.mk [Value.int IntKind.i64 s, Value.bool false])) = End.ret v)
     (br (s == (0 : Int))
      (br (e == (2 : Int))
       (End.ret (Value.tuple (Array.mk [Value.int IntKind.i64 (1 : Int), Value.bool true])) = End.ret v)
       (br (e == (1 : Int))
        (End.ret (Value.tuple (Array.mk [Value.int IntKind.i64 (3 : Int), Value.bool true])) = End.ret v)
        (End.ret (Value.tuple (Array.mk [Value.int IntKind.i64 (0 : Int), Value.bool false])) = End.ret v)))
      (br (s == (1 : Int))
       (br (e == (5 : Int))
        (End.ret (Value.tuple (Array.mk [Value.int IntKind.i64 (4 : Int), Value.bool true])) = End.ret v)
        (br (e == (1 : Int))
         (End.ret (Value.tuple (Array.mk [Value.int IntKind.i64 (3 : Int), Value.bool true])) = End.ret v)
         (br (e == (3 : Int))
          (End.ret (Value.tuple (Array.mk [Value.int IntKind.i64 (3 : Int), Value.bool true])) = End.ret v)
          (End.ret (Value.tuple (Array.mk [Value.int IntKind.i64 (1 : Int), Value.bool true])) = End.ret v))))
       (br (s == (2 : Int))
        (br (e == (5 : Int))
         (End.ret (Value.tuple (Array.mk [Value.int IntKind.i64 (4 : Int), Value.bool true])) = End.ret v)
         (br (s == (3 : Int))
          (End.ret (Value.tuple (Array.mk [Value.int IntKind.i64 s, Value.bool false])) = End.ret v)
          (br (e == (1 : Int))
           (End.ret (Value.tuple (Array.mk [Value.int IntKind.i64 (4 : Int), Value.bool true])) = End.ret v)
           (br (e == (3 : Int))
            (End.ret (Value.tuple (Array.mk [Value.int IntKind.i64 (4 : Int), Value.bool true])) = End.ret v)
            (End.ret (Value.tuple (Array.mk [Value.int IntKind.i64 s, Value.bool true])) = End.ret v)))))
        (br (s == (3 : Int))
         (br (e == (5 : Int))
          (End.ret (Value.tuple (Array.mk [Value.int IntKind.i64 (4 : Int), Value.bool true])) = End.ret v)
          (br (s == (3 : Int))
           (End.ret (Value.tuple (Array.mk [Value.int IntKind.i64 s, Value.bool false])) = End.ret v)
           (br (e == (1 : Int))
            (End.ret (Value.tuple (Array.mk [Value.int IntKind.i64 (4 : Int), Value.bool true])) = End.ret v)
            (br (e == (3 : Int))
             (End.ret (Value.tuple (Array.mk [Value.int IntKind.i64 (4 : Int), Value.bool true])) = End.ret v)
             (End.ret (Value.tuple (Array.mk [Value.int IntKind.i64 s, Value.bool true])) = End.ret v)))))
         (End.ret (Value.tuple (Array.mk [Value.int IntKind.i64 s, Value.bool false])) = End.ret v)))))))) := by kernel_rfl
theorem ref_vc (s e : Int) (v : Value) : scall E0 60 11 [.int .i64 s, .int .i64 e] ⟨.leaf, 0⟩ (fun r => r.1 = .ret v) =
  (br (decide (e < (1 : Int)))
   (End.ret (Value.tuple (Array.mk [Value.int IntKind.i64 s, Value.bool false])) = End.ret v)
   (br (decide (e > (15 : Int)))
    (End.ret (Value.tuple (Array.mk [Value.int IntKind.i64 s, Value.bool false])) = End.ret v)
    (br (decide (e > (5 : Int)))
     (br (decide (e < (11 : Int)))
      (End.ret (Value.tuple (Array.mk [Value.int IntKind.i64 s, Value.bool false])) = End.ret v)
      (br (decide (s < (0 : Int)))
       (End.ret (Value.tuple (Array.mk [Value.int IntKind.i64 s, Value.bool false])) = End.ret v)
       (br (decide (s > (4 : Int)))
        (End.ret (Value.tuple (Array.mk [Value.int IntKind.i64 s, Value.bool false])) = End.ret v)
        (br (decide (e > (10 : Int)))
         (br (decide (e > (10 : Int)))
          (br (IntKind.wrap IntKind.i64 (e - (10 : Int)) == (1 : Int))
           (br (s == (0 : Int))
            (br (IntKind.wrap IntKind.i64 (e - (10 : Int)) == (1 : Int))
             (End.ret (Value.tuple (Array.mk [Value.int IntKind.i64 (2 : Int), Value.bool true])) = End.ret v)
             (br (IntKind.wrap IntKind.i64 (e - (10 : Int)) == (2 : Int))
              (End.ret (Value.tuple (Array.mk [Value.int IntKind.i64 (1 : Int), Value.bool true])) = End.ret v)
              (End.ret (Value.tuple (Array.mk [Value.int IntKind.i64 (0 : Int), Value.bool false])) = End.ret v)))
            (br (s == (4 : Int))
             (End.ret (Value.tuple (Array.mk [Value.int IntKind.i64 s, Value.bool false])) = End.ret v)
             (br (s == (2 : Int))
              (br (IntKind.wrap IntKind.i64 (e - (10 : Int)) != (5 : Int))
               (End.ret (Value.tuple (Array.mk [Value.int IntKind.i64 s, Value.bool false])) = End.ret v)
               (br (IntKind.wrap IntKind.i64 (e - (10 : Int)) == (5 : Int))
                (End.ret (Value.tuple (Array.mk [Value.int IntKind.i64 (4 : Int), Value.bool true])) = End.ret v)
                (br (s == (3 : Int))
                 (End.ret (Value.tuple (Array.mk [Value.int IntKind.i64 (4 : Int), Value.bool true])) = End.ret v)
                 (End.ret (Value.tuple (Array.mk [Value.int IntKind.i64 (2 : Int), Value.bool true])) = End.ret v))))
              (br (IntKind.wrap IntKind.i64 (e - (10 : Int)) == (5 : Int))
               (End.ret (Value.tuple (Array.mk [Value.int IntKind.i64 (4 : Int), Value.bool true])) = End.ret v)
               (br (s == (3 : Int))
                (End.ret (Value.tuple (Array.mk [Value.int IntKind.i64 (4 : Int), Value.bool true])) = End.ret v)
                (End.ret (Value.tuple (Array.mk [Value.int IntKind.i64 (2 : Int), Value.bool true])) = End.ret v))))))
           (br (s == (0 : Int))
            (br (IntKind.wrap IntKind.i64 (e - (10 : Int)) == (1 : Int))
             (End.ret (Value.tuple (Array.mk [Value.int IntKind.i64 (2 : Int), Value.bool true])) = End.ret v)
             (br (IntKind.wrap IntKind.i64 (e - (10 : Int)) == (2 : Int))
              (End.ret (Value.tuple (Array.mk [Value.int IntKind.i64 (1 : Int), Value.bool true])) = End.ret v)
              (End.ret (Value.tuple (Array.mk [Value.int IntKind.i64 (0 : Int), Value.bool false])) = End.ret v)))
            (br (s == (4 : Int))
             (End.ret (Value.tuple (Array.mk [Value.int IntKind.i64 s, Value.bool false])) = End.ret v)
             (br (s == (2 : Int))
              (br (IntKind.wrap IntKind.i64 (e - (10 : Int)) != (5 : Int))
               (End.ret (Value.tuple (Array.mk [Value.int IntKind.i64 s, Value.bool false])) = End.ret v)
               (br (IntKind.wrap IntKind.i64 (e - (10 : Int)) == (5 : Int))
                (End.ret (Value.tuple (Array.mk [Value.int IntKind.i64 (4 : Int), Value.bool true])) = End.ret v)
                (br (!IntKind.wrap IntKind.i64 (e - (10 : Int)) == (3 : Int))
                 (End.ret (Value.tuple (Array.mk [Value.int IntKind.i64 s, Value.bool true])) = End.ret v)
                 (br (s == (3 : Int))
                  (End.ret (Value.tuple (Array.mk [Value.int IntKind.i64 (4 : Int), Value.bool true])) = End.ret v)
                  (End.ret (Value.tuple (Array.mk [Value.int IntKind.i64 (2 : Int), Value.bool true])) = End.ret v)))))
              (br (IntKind.wrap IntKind.i64 (e - (10 : Int)) == (5 : Int))
               (End.ret (Value.tuple (Array.mk [Value.int IntKind.i64 (4 : Int), Value.bool true])) = End.ret v)
               (br (!IntKind.wrap IntKind.i64 (e - (10 : Int)) == (3 : Int))
                (End.ret (Value.tuple (Array.mk [Value.int IntKind.i64 s, Value.bool true])) = End.ret v)
                (br (s == (3 : Int))
                 (End.ret (Value.tuple (Array.mk [Value.int IntKind.i64 (4 : Int), Value.bool true])) = End.ret v)
                 (End.ret (Value.tuple (Array.mk [Value.int IntKind.i64 (2 : Int), Value.bool true])) = End.ret v))))))))
          (br (IntKind.wrap IntKind.i64 (e - (10 : Int)) == (1 : Int))
           (br (s == (0 : Int))
            (br (IntKind.wrap IntKind.i64 (e - (10 : Int)) == (1 : Int))
             (End.ret (Value.tuple (Array.mk [Value.int IntKind.i64 (3 : Int), Value.bool true])) = End.ret v)
             (br (IntKind.wrap IntKind.i64 (e - (10 : Int)) == (2 : Int))
              (End.ret (Value.tuple (Array.mk [Value.int IntKind.i64 (1 : Int), Value.bool true])) = End.ret v)
              (End.ret (Value.tuple (Array.mk [Value.int IntKind.i64 (0 : Int), Value.bool false])) = End.ret v)))
            (br (s == (4 : Int))
             (End.ret (Value.tuple (Array.mk [Value.int IntKind.i64 s, Value.bool false])) = End.ret v)
             (br (s == (3 : Int))
              (br (IntKind.wrap IntKind.i64 (e - (10 : Int)) != (5 : Int))
               (End.ret (Value.tuple (Array.mk [Value.int IntKind.i64 s, Value.bool false])) = End.ret v)
               (br (IntKind.wrap IntKind.i64 (e - (10 : Int)) == (5 : Int))
                (End.ret (Value.tuple (Array.mk [Value.int IntKind.i64 (4 : Int), Value.bool true])) = End.ret v)
                (br (s == (2 : Int))
                 (End.ret (Value.tuple (Array.mk [Value.int IntKind.i64 (4 : Int), Value.bool true])) = End.ret v)
                 (End.ret (Value.tuple (Array.mk [Value.int IntKind.i64 (3 : Int), Value.bool true])) = End.ret v))))
              (br (IntKind.wrap IntKind.i64 (e - (10 : Int)) == (5 : Int))
               (End.ret (Value.tuple (Array.mk [Value.int IntKind.i64 (4 : Int), Value.bool true])) = End.ret v)
               (br (s == (2 : Int))
                (End.ret (Value.tuple (Array.mk [Value.int IntKind.i64 (4 : Int), Value.bool true])) = End.ret v)
                (End.ret (Value.tuple (Array.mk [Value.int IntKind.i64 (3 : Int), Value.bool true])) = End.ret v))))))
           (br (s == (0 : Int))
            (br (IntKind.wrap IntKind.i64 (e - (10 : Int)) == (1 : Int))
             (End.ret (Value.tuple (Array.mk [Value.int IntKind.i64 (3 : Int), Value.bool true])) = End.ret v)
             (br (IntKind.wrap IntKind.i64 (e - (10 : Int)) == (2 : Int))
              (End.ret (Value.tuple (Array.mk [Value.int IntKind.i64 (1 : Int), Value.bool true])) = End.ret v)
              (End.ret (Value.tuple (Array.mk [Value.int IntKind.i64 (0 : Int), Value.bool false])) = End.ret v)))
            (br (s == (4 : Int))
             (End.ret (Value.tuple (Array.mk [Value.int IntKind.i64 s, Value.bool false])) = End.ret v)
             (br (s == (3 : Int))
              (br (IntKind.wrap IntKind.i64 (e - (10 : Int)) != (5 : Int))
               (End.ret (Value.tuple (Array.mk [Value.int IntKind.i64 s, Value.bool false])) = End.ret v)
               (br (IntKind.wrap IntKind.i64 (e - (10 : Int)) == (5 : Int))
                (End.ret (Value.tuple (Array.mk [Value.int IntKind.i64 (4 : Int), Value.bool true])) = End.ret v)
                (br (!IntKind.wrap IntKind.i64 (e - (10 : Int)) == (3 : Int))
                 (End.ret (Value.tuple (Array.mk [Value.int IntKind.i64 s, Value.bool true])) = End.ret v)
                 (br (s == (2 : Int))
                  (End.ret (Value.tuple (Array.mk [Value.int IntKind.i64 (4 : Int), Value.bool true])) = End.ret v)
                  (End.ret (Value.tuple (Array.mk [Value.int IntKind.i64 (3 : Int), Value.bool true])) = End.ret v)))))
              (br (IntKind.wrap IntKind.i64 (e - (10 : Int)) == (5 : Int))
               (End.ret (Value.tuple (Array.mk [Value.int IntKind.i64 (4 : Int), Value.bool true])) = End.ret v)
               (br (!IntKind.wrap IntKind.i64 (e - (10 : Int)) == (3 : Int))
                (End.ret (Value.tuple (Array.mk [Value.int IntKind.i64 s, Value.bool true])) = End.ret v)
                (br (s == (2 : Int))
                 (End.ret (Value.tuple (Array.mk [Value.int IntKind.i64 (4 : Int), Value.bool true])) = End.ret v)
                 (End.ret (Value.tuple (Array.mk [Value.int IntKind.i64 (3 : Int), Value.bool true])) = End.ret v)))))))))
         (br (decide (e > (10 : Int)))
          (br (e == (1 : Int))
           (br (s == (0 : Int))
            (br (e == (1 : Int))
             (End.ret (Value.tuple (Array.mk [Value.int IntKind.i64 (2 : Int), Value.bool true])) = End.ret v)
             (br (e == (2 : Int))
              (End.ret (Value.tuple (Array.mk [Value.int IntKind.i64 (1 : Int), Value.bool true])) = End.ret v)
              (End.ret (Value.tuple (Array.mk [Value.int IntKind.i64 (0 : Int), Value.bool false])) = End.ret v)))
            (br (s == (4 : Int))
             (End.ret (Value.tuple (Array.mk [Value.int IntKind.i64 s, Value.bool false])) = End.ret v)
             (br (s == (2 : Int))
              (br (e != (5 : Int))
               (End.ret (Value.tuple (Array.mk [Value.int IntKind.i64 s, Value.bool false])) = End.ret v)
               (br (e == (5 : Int))
                (End.ret (Value.tuple (Array.mk [Value.int IntKind.i64 (4 : Int), Value.bool true])) = End.ret v)
                (br (s == (3 : Int))
                 (End.ret (Value.tuple (Array.mk [Value.int IntKind.i64 (4 : Int), Value.bool true])) = End.ret v)
                 (End.ret (Value.tuple (Array.mk [Value.int IntKind.i64 (2 : Int), Value.bool true])) = End.ret v))))
              (br (e == (5 : Int))
               (End.ret (Value.tuple (Array.mk [Value.int IntKind.i64 (4 : Int), Value.bool true])) = End.ret v)
               (br (s == (3 : Int))
                (End.ret (Value.tuple (Array.mk [Value.int IntKind.i64 (4 : Int), Value.bool true])) = End.ret v)
                (End.ret (Value.tuple (Array.mk [Value.int IntKind.i64 (2 : Int), Value.bool true])) = End.ret v))))))
           (br (s == (0 : Int))
            (br (e == (1 : Int))
             (End.ret (Value.tuple (Array.mk [Value.int IntKind.i64 (2 : Int), Value.bool true])) = End.ret v)
             (br (e == (2 : Int))
              (End.ret (Value.tuple (Array.mk [Value.int IntKind.i64 (1 : Int), Value.bool true])) = End.ret v)
              (End.ret (Value.tuple (Array.mk [Value.int IntKind.i64 (0 : Int), Value.bool false])) = End.ret v)))
            (br (s == (4 : Int))
             (End.ret (Value.tuple (Array.mk [Value.int IntKind.i64 s, Value.bool false])) = End.ret v)
             (br (s == (2 : Int))
              (br (e != (5 : Int))
               (End.ret (Value.tuple (Array.mk [Value.int IntKind.i64 s, Value.bool false])) = End.ret v)
               (br (e == (5 : Int))
                (End.ret (Value.tuple (Array.mk [Value.int IntKind.i64 (4 : Int), Value.bool true])) = End.ret v)
                (br (!e == (3 : Int))
                 (End.ret (Value.tuple (Array.mk [Value.int IntKind.i64 s, Value.bool true])) = End.ret v)
                 (br (s == (3 : Int))
                  (End.ret (Value.tuple (Array.mk [Value.int IntKind.i64 (4 : Int), Value.bool true])) = End.ret v)
                  (End.ret (Value.tuple (Array.mk [Value.int IntKind.i64 (2 : Int), Value.bool true])) = End.ret v)))))
              (br (e == (5 : Int))
               (End.ret (Value.tuple (Array.mk [Value.int IntKind.i64 (4 : Int), Value.bool true])) = End.ret v)
               (br (!e == (3 : Int))
                (End.ret (Value.tuple (Array.mk [Value.int IntKind.i64 s, Value.bool true])) = End.ret v)
                (br (s == (3 : Int))
                 (End.ret (Value.tuple (Array.mk [Value.int IntKind.i64 (4 : Int), Value.bool true])) = End.ret v)
                 (End.ret (Value.tuple (Array.mk [Value.int IntKind.i64 (2 : Int), Value.bool true])) = End.ret v))))))))
          (br (e == (1 : Int))
           (br (s == (0 : Int))
            (br (e == (1 : Int))
             (End.ret (Value.tuple (Array.mk [Value.int IntKind.i64 (3 : Int), Value.bool true])) = End.ret v)
             (br (e == (2 : Int))
              (End.ret (Value.tuple (Array.mk [Value.int IntKind.i64 (1 : Int), Value.bool true])) = End.ret v)
              (End.ret (Value.tuple (Array.mk [Value.int IntKind.i64 (0 : Int), Value.bool false])) = End.ret v)))
            (br (s == (4 : Int))
             (End.ret (Value.tuple (Array.mk [Value.int IntKind.i64 s, Value.bool false])) = End.ret v)
             (br (s == (3 : Int))
              (br (e != (5 : Int))
               (End.ret (Value.tuple (Array.mk [Value.int IntKind.i64 s, Value.bool false])) = End.ret v)
               (br (e == (5 : Int))
                (End.ret (Value.tuple (Array.mk [Value.int IntKind.i64 (4 : Int), Value.bool true])) = End.ret v)
                (br (s == (2 : Int))
                 (End.ret (Value.tuple (Array.mk [Value.int IntKind.i64 (4 : Int), Value.bool true])) = End.ret v)
                 (End.ret (Value.tuple (Array.mk [Value.int IntKind.i64 (3 : Int), Value.bool true])) = End.ret v))))
              (br (e == (5 : Int))
               (End.ret (Value.tuple (Array.mk [Value.int IntKind.i64 (4 : Int), Value.bool true])) = End.ret v)
               (br (s == (2 : Int))
                (End.ret (Value.tuple (Array.mk [Value.int IntKind.i64 (4 : Int), Value.bool true])) = End.ret v)
                (End.ret (Value.tuple (Array.mk [Value.int IntKind.i64 (3 : Int), Value.bool true])) = End.ret v))))))
           (br (s == (0 : Int))
            (br (e == (1 : Int))
             (End.ret (Value.tuple (Array.mk [Value.int IntKind.i64 (3 : Int), Value.bool true])) = End.ret v)
             (br (e == (2 : Int))
              (End.ret (Value.tuple (Array.mk [Value.int IntKind.i64 (1 : Int), Value.bool true])) = End.ret v)
              (End.ret (Value.tuple (Array.mk [Value.int IntKind.i64 (0 : Int), Value.bool false])) = End.ret v)))
            (br (s == (4 : Int))
             (End.ret (Value.tuple (Array.mk [Value.int IntKind.i64 s, Value.bool false])) = End.ret v)
             (br (s == (3 : Int))
              (br (e != (5 : Int))
               (End.ret (Value.tuple (Array.mk [Value.int IntKind.i64 s, Value.bool false])) = End.ret v)
               (br (e == (5 : Int))
                (End.ret (Value.tuple (Array.mk [Value.int IntKind.i64 (4 : Int), Value.bool true])) = End.ret v)
                (br (!e == (3 : Int))
                 (End.ret (Value.tuple (Array.mk [Value.int IntKind.i64 s, Value.bool true])) = End.ret v)
                 (br (s == (2 : Int))
                  (End.ret (Value.tuple (Array.mk [Value.int IntKind.i64 (4 : Int), Value.bool true])) = End.ret v)
                  (End.ret (Value.tuple (Array.mk [Value.int IntKind.i64 (3 : Int), Value.bool true])) = End.ret v)))))
              (br (e == (5 : Int))
               (End.ret (Value.tuple (Array.mk [Value.int IntKind.i64 (4 : Int), Value.bool true])) = End.ret v)
               (br (!e == (3 : Int))
                (End.ret (Value.tuple (Array.mk [Value.int IntKind.i64 s, Value.bool true])) = End.ret v)
                (br (s == (2 : Int))
                 (End.ret (Value.tuple (Array.mk [Value.int IntKind.i64 (4 : Int), Value.bool true])) = End.ret v)
                 (End.ret (Value.tuple (Array.mk [Value.int IntKind.i64 (3 : Int), Value.bool true])) = End.ret v)))))))))))))
     (br (decide (s < (0 : Int)))
      (End.ret (Value.tuple (Array.mk [Value.int IntKind.i64 s, Value.bool false])) = End.ret v)
      (br (decide (s > (4 : Int)))
       (End.ret (Value.tuple (Array.mk [Value.int IntKind.i64 s, Value.bool false])) = End.ret v)
       (br (decide (e > (10 : Int)))
        (br (decide (e > (10 : Int)))
         (br (IntKind.wrap IntKind.i64 (e - (10 : Int)) == (1 : Int))
          (br (s == (0 : Int))
           (br (IntKind.wrap IntKind.i64 (e - (10 : Int)) == (1 : Int))
            (End.ret (Value.tuple (Array.mk [Value.int IntKind.i64 (2 : Int), Value.bool true])) = End.ret v)
            (br (IntKind.wrap IntKind.i64 (e - (10 : Int)) == (2 : Int))
             (End.ret (Value.tuple (Array.mk [Value.int IntKind.i64 (1 : Int), Value.bool true])) = End.ret v)
             (End.ret (Value.tuple (Array.mk [Value.int IntKind.i64 (0 : Int), Value.bool false])) = End.ret v)))
           (br (s == (4 : Int))
            (End.ret (Value.tuple (Array.mk [Value.int IntKind.i64 s, Value.bool false])) = End.ret v)
            (br (s == (2 : Int))
             (br (IntKind.wrap IntKind.i64 (e - (10 : Int)) != (5 : Int))
              (End.ret (Value.tuple (Array.mk [Value.int IntKind.i64 s, Value.bool false])) = End.ret v)
              (br (IntKind.wrap IntKind.i64 (e - (10 : Int)) == (5 : Int))
               (End.ret (Value.tuple (Array.mk [Value.int IntKind.i64 (4 : Int), Value.bool true])) = End.ret v)
               (br (s == (3 : Int))
                (End.ret (Value.tuple (Array.mk [Value.int IntKind.i64 (4 : Int), Value.bool true])) = End.ret v)
                (End.ret (Value.tuple (Array.mk [Value.int IntKind.i64 (2 : Int), Value.bool true])) = End.ret v))))
             (br (IntKind.wrap IntKind.i64 (e - (10 : Int)) == (5 : Int))
              (End.ret (Value.tuple (Array.mk [Value.int IntKind.i64 (4 : Int), Value.bool true])) = End.ret v)
              (br (s == (3 : Int))
               (End.ret (Value.tuple (Array.mk [Value.int IntKind.i64 (4 : Int), Value.bool true])) = End.ret v)
               (End.ret (Value.tuple (Array.mk [Value.int IntKind.i64 (2 : Int), Value.bool true])) = End.ret v))))))
          (br (s == (0 : Int))
           (br (IntKind.wrap IntKind.i64 (e - (10 : Int)) == (1 : Int))
            (End.ret (Value.tuple (Array.mk [Value.int IntKind.i64 (2 : Int), Value.bool true])) = End.ret v)
            (br (IntKind.wrap IntKind.i64 (e - (10 : Int)) == (2 : Int))
             (End.ret (Value.tuple (Array.mk [Value.int IntKind.i64 (1 : Int), Value.bool true])) = End.ret v)
             (End.ret (Value.tuple (Array.mk [Value.int IntKind.i64 (0 : Int), Value.bool false])) = End.ret v)))
           (br (s == (4 : Int))
            (End.ret (Value.tuple (Array.mk [Value.int IntKind.i64 s, Value.bool false])) = End.ret v)
            (br (s == (2 : Int))
             (br (IntKind.wrap IntKind.i64 (e - (10 : Int)) != (5 : Int))
              (End.ret (Value.tuple (Array.mk [Value.int IntKind.i64 s, Value.bool false])) = End.ret v)
              (br (IntKind.wrap IntKind.i64 (e - (10 : Int)) == (5 : Int))
               (End.ret (Value.tuple (Array.mk [Value.int IntKind.i64 (4 : Int), Value.bool true])) = End.ret v)
               (br (!IntKind.wrap IntKind.i64 (e - (10 : Int)) == (3 : Int))
                (End.ret (Value.tuple (Array.mk [Value.int IntKind.i64 s, Value.bool true])) = End.ret v)
                (br (s == (3 : Int))
                 (End.ret (Value.tuple (Array.mk [Value.int IntKind.i64 (4 : Int), Value.bool true])) = End.ret v)
                 (End.ret (Value.tuple (Array.mk [Value.int IntKind.i64 (2 : Int), Value.bool true])) = End.ret v)))))
             (br (IntKind.wrap IntKind.i64 (e - (10 : Int)) == (5 : Int))
              (End.ret (Value.tuple (Array.mk [Value.int IntKind.i64 (4 : Int), Value.bool true])) = End.ret v)
              (br (!IntKind.wrap IntKind.i64 (e - (10 : Int)) == (3 : Int))
               (End.ret (Value.tuple (Array.mk [Value.int IntKind.i64 s, Value.bool true])) = End.ret v)
               (br (s == (3 : Int))
                (End.ret (Value.tuple (Array.mk [Value.int IntKind.i64 (4 : Int), Value.bool true])) = End.ret v)
                (End.ret (Value.tuple (Array.mk [Value.int IntKind.i64 (2 : Int), Value.bool true])) = End.ret v))))))))
         (br (IntKind.wrap IntKind.i64 (e - (10 : Int)) == (1 : Int))
          (br (s == (0 : Int))
           (br (IntKind.wrap IntKind.i64 (e - (10 : Int)) == (1 : Int))
            (End.ret (Value.tuple (Array.mk [Value.int IntKind.i64 (3 : Int), Value.bool true])) = End.ret v)
            (br (IntKind.wrap IntKind.i64 (e - (10 : Int)) == (2 : Int))
             (End.ret (Value.tuple (Array.mk [Value.int IntKind.i64 (1 : Int), Value.bool true])) = End.ret v)
             (End.ret (Value.tuple (Array.mk [Value.int IntKind.i64 (0 : Int), Value.bool false])) = End.ret v)))
           (br (s == (4 : Int))
            (End.ret (Value.tuple (Array.mk [Value.int IntKind.i64 s, Value.bool false])) = End.ret v)
            (br (s == (3 : Int))
             (br (IntKind.wrap IntKind.i64 (e - (10 : Int)) != (5 : Int))
              (End.ret (Value.tuple (Array.mk [Value.int IntKind.i64 s, Value.bool false])) = End.ret v)
              (br (IntKind.wrap IntKind.i64 (e - (10 : Int)) == (5 : Int))
               (End.ret (Value.tuple (Array.mk [Value.int IntKind.i64 (4 : Int), Value.bool true])) = End.ret v)
               (br (s == (2 : Int))
                (End.ret (Value.tuple (Array.mk [Value.int IntKind.i64 (4 : Int), Value.bool true])) = End.ret v)
                (End.ret (Value.tuple (Array.mk [Value.int IntKind.i64 (3 : Int), Value.bool true])) = End.ret v))))
             (br (IntKind.wrap IntKind.i64 (e - (10 : Int)) == (5 : Int))
              (End.ret (Value.tuple (Array.mk [Value.int IntKind.i64 (4 : Int), Value.bool true])) = End.ret v)
              (br (s == (2 : Int))
               (End.ret (Value.tuple (Array.mk [Value.int IntKind.i64 (4 : Int), Value.bool true])) = End.ret v)
               (End.ret (Value.tuple (Array.mk [Value.int IntKind.i64 (3 : Int), Value.bool true])) = End.ret v))))))
          (br (s == (0 : Int))
           (br (IntKind.wrap IntKind.i64 (e - (10 : Int)) == (1 : Int))
            (End.ret (Value.tuple (Array.mk [Value.int IntKind.i64 (3 : Int), Value.bool true])) = End.ret v)
            (br (IntKind.wrap IntKind.i64 (e - (10 : Int)) == (2 : Int))
             (End.ret (Value.tuple (Array.mk [Value.int IntKind.i64 (1 : Int), Value.bool true])) = End.ret v)
             (End.ret (Value.tuple (Array.mk [Value.int IntKind.i64 (0 : Int), Value.bool false])) = End.ret v)))
           (br (s == (4 : Int))
            (End.ret (Value.tuple (Array.mk [Value.int IntKind.i64 s, Value.bool false])) = End.ret v)
            (br (s == (3 : Int))
             (br (IntKind.wrap IntKind.i64 (e - (10 : Int)) != (5 : Int))
              (End.ret (Value.tuple (Array.mk [Value.int IntKind.i64 s, Value.bool false])) = End.ret v)
              (br (IntKind.wrap IntKind.i64 (e - (10 : Int)) == (5 : Int))
               (End.ret (Value.tuple (Array.mk [Value.int IntKind.i64 (4 : Int), Value.bool true])) = End.ret v)
               (br (!IntKind.wrap IntKind.i64 (e - (10 : Int)) == (3 : Int))
                (End.ret (Value.tuple (Array.mk [Value.int IntKind.i64 s, Value.bool true])) = End.ret v)
                (br (s == (2 : Int))
                 (End.ret (Value.tuple (Array.mk [Value.int IntKind.i64 (4 : Int), Value.bool true])) = End.ret v)
                 (End.ret (Value.tuple (Array.mk [Value.int IntKind.i64 (3 : Int), Value.bool true])) = End.ret v)))))
             (br (IntKind.wrap IntKind.i64 (e - (10 : Int)) == (5 : Int))
              (End.ret (Value.tuple (Array.mk [Value.int IntKind.i64 (4 : Int), Value.bool true])) = End.ret v)
              (br (!IntKind.wrap IntKind.i64 (e - (10 : Int)) == (3 : Int))
               (End.ret (Value.tuple (Array.mk [Value.int IntKind.i64 s, Value.bool true])) = End.ret v)
               (br (s == (2 : Int))
                (End.ret (Value.tuple (Array.mk [Value.int IntKind.i64 (4 : Int), Value.bool true])) = End.ret v)
                (End.ret (Value.tuple (Array.mk [Value.int IntKind.i64 (3 : Int), Value.bool true])) = End.ret v)))))))))
        (br (decide (e > (10 : Int)))
         (br (e == (1 : Int))
          (br (s == (0 : Int))
           (br (e == (1 : Int))
            (End.ret (Value.tuple (Array.mk [Value.int IntKind.i64 (2 : Int), Value.bool true])) = End.ret v)
            (br (e == (2 : Int))
             (End.ret (Value.tuple (Array.mk [Value.int IntKind.i64 (1 : Int), Value.bool true])) = End.ret v)
             (End.ret (Value.tuple (Array.mk [Value.int IntKind.i64 (0 : Int), Value.bool false])) = End.ret v)))
           (br (s == (4 : Int))
            (End.ret (Value.tuple (Array.mk [Value.int IntKind.i64 s, Value.bool false])) = End.ret v)
            (br (s == (2 : Int))
             (br (e != (5 : Int))
              (End.ret (Value.tuple (Array.mk [Value.int IntKind.i64 s, Value.bool false])) = End.ret v)
              (br (e == (5 : Int))
               (End.ret (Value.tuple (Array.mk [Value.int IntKind.i64 (4 : Int), Value.bool true])) = End.ret v)
               (br (s == (3 : Int))
                (End.ret (Value.tuple (Array.mk [Value.int IntKind.i64 (4 : Int), Value.bool true])) = End.ret v)
                (End.ret (Value.tuple (Array.mk [Value.int IntKind.i64 (2 : Int), Value.bool true])) = End.ret v))))
             (br (e == (5 : Int))
              (End.ret (Value.tuple (Array.mk [Value.int IntKind.i64 (4 : Int), Value.bool true])) = End.ret v)
              (br (s == (3 : Int))
               (End.ret (Value.tuple (Array.mk [Value.int IntKind.i64 (4 : Int), Value.bool true])) = End.ret v)
               (End.ret (Value.tuple (Array.mk [Value.int IntKind.i64 (2 : Int), Value.bool true])) = End.ret v))))))
          (br (s == (0 : Int))
           (br (e == (1 : Int))
            (End.ret (Value.tuple (Array.mk [Value.int IntKind.i64 (2 : Int), Value.bool true])) = End.ret v)
            (br (e == (2 : Int))
             (End.ret (Value.tuple (Array.mk [Value.int IntKind.i64 (1 : Int), Value.bool true])) = End.ret v)
             (End.ret (Value.tuple (Array.mk [Value.int IntKind.i64 (0 : Int), Value.bool false])) = End.ret v)))
           (br (s == (4 : Int))
            (End.ret (Value.tuple (Array.mk [Value.int IntKind.i64 s, Value.bool false])) = End.ret v)
            (br (s == (2 : Int))
             (br (e != (5 : Int))
              (End.ret (Value.tuple (Array.mk [Value.int IntKind.i64 s, Value.bool false])) = End.ret v)
              (br (e == (5 : Int))
               (End.ret (Value.tuple (Array.mk [Value.int IntKind.i64 (4 : Int), Value.bool true])) = End.ret v)
               (br (!e == (3 : Int))
                (End.ret (Value.tuple (Array.mk [Value.int IntKind.i64 s, Value.bool true])) = End.ret v)
                (br (s == (3 : Int))
                 (End.ret (Value.tuple (Array.mk [Value.int IntKind.i64 (4 : Int), Value.bool true])) = End.ret v)
                 (End.ret (Value.tuple (Array.mk [Value.int IntKind.i64 (2 : Int), Value.bool true])) = End.ret v)))))
             (br (e == (5 : Int))
              (End.ret (Value.tuple (Array.mk [Value.int IntKind.i64 (4 : Int), Value.bool true])) = End.ret v)
              (br (!e == (3 : Int))
               (End.ret (Value.tuple (Array.mk [Value.int IntKind.i64 s, Value.bool true])) = End.ret v)
               (br (s == (3 : Int))
                (End.ret (Value.tuple (Array.mk [Value.int IntKind.i64 (4 : Int), Value.bool true])) = End.ret v)
                (End.ret (Value.tuple (Array.mk [Value.int IntKind.i64 (2 : Int), Value.bool true])) = End.ret v))))))))
         (br (e == (1 : Int))
          (br (s == (0 : Int))
           (br (e == (1 : Int))
            (End.ret (Value.tuple (Array.mk [Value.int IntKind.i64 (3 : Int), Value.bool true])) = End.ret v)
            (br (e == (2 : Int))
             (End.ret (Value.tuple (Array.mk [Value.int IntKind.i64 (1 : Int), Value.bool true])) = End.ret v)
             (End.ret (Value.tuple (Array.mk [Value.int IntKind.i64 (0 : Int), Value.bool false])) = End.ret v)))
           (br (s == (4 : Int))
            (End.ret (Value.tuple (Array.mk [Value.int IntKind.i64 s, Value.bool false])) = End.ret v)
            (br (s == (3 : Int))
             (br (e != (5 : Int))
              (End.ret (Value.tuple (Array.mk [Value.int IntKind.i64 s, Value.bool false])) = End.ret v)
              (br (e == (5 : Int))
               (End.ret (Value.tuple (Array.mk [Value.int IntKind.i64 (4 : Int), Value.bool true])) = End.ret v)
               (br (s == (2 : Int))
                (End.ret (Value.tuple (Array.mk [Value.int IntKind.i64 (4 : Int), Value.bool true])) = End.ret v)
                (End.ret (Value.tuple (Array.mk [Value.int IntKind.i64 (3 : Int), Value.bool true])) = End.ret v))))
             (br (e == (5 : Int))
              (End.ret (Value.tuple (Array.mk [Value.int IntKind.i64 (4 : Int), Value.bool true])) = End.ret v)
              (br (s == (2 : Int))
               (End.ret (Value.tuple (Array.mk [Value.int IntKind.i64 (4 : Int), Value.bool true])) = End.ret v)
               (End.ret (Value.tuple (Array.mk [Value.int IntKind.i64 (3 : Int), Value.bool true])) = End.ret v))))))
          (br (s == (0 : Int))
           (br (e == (1 : Int))
            (End.ret (Value.tuple (Array.mk [Value.int IntKind.i64 (3 : Int), Value.bool true])) = End.ret v)
            (br (e == (2 : Int))
             (End.ret (Value.tuple (Array.mk [Value.int IntKind.i64 (1 : Int), Value.bool true])) = End.ret v)
             (End.ret (Value.tuple (Array.mk [Value.int IntKind.i64 (0 : Int), Value.bool false])) = End.ret v)))
           (br (s == (4 : Int))
            (End.ret (Value.tuple (Array.mk [Value.int IntKind.i64 s, Value.bool false])) = End.ret v)
            (br (s == (3 : Int))
             (br (e != (5 : Int))
              (End.ret (Value.tuple (Array.mk [Value.int IntKind.i64 s, Value.bool false])) = End.ret v)
              (br (e == (5 : Int))
               (End.ret (Value.tuple (Array.mk [Value.int IntKind.i64 (4 : Int), Value.bool true])) = End.ret v)
               (br (!e == (3 : Int))
                (End.ret (Value.tuple (Array.mk [Value.int IntKind.i64 s, Value.bool true])) = End.ret v)
                (br (s == (2 : Int))
                 (End.ret (Value.tuple (Array.mk [Value.int IntKind.i64 (4 : Int), Value.bool true])) = End.ret v)
                 (End.ret (Value.tuple (Array.mk [Value.int IntKind.i64 (3 : Int), Value.bool true])) = End.ret v)))))
             (br (e == (5 : Int))
              (End.ret (Value.tuple (Array.mk [Value.int IntKind.i64 (4 : Int), Value.bool true])) = End.ret v)
              (br (!e == (3 : Int))
               (End.ret (Value.tuple (Array.mk [Value.int IntKind.i64 s, Value.bool true])) = End.ret v)
               (br (s == (2 : Int))
                (End.ret (Value.tuple (Array.mk [Value.int IntKind.i64 (4 : Int), Value.bool true])) = End.ret v)
                (End.ret (Value.tuple (Array.mk [Value.int IntKind.i64 (3 : Int), Value.bool true])) = End.ret v))))))))))))))) := by kernel_rfl
theorem body10_vc (xs : List Int) (k s : Int) (N : Option Value → Option Value → Option Value → Option Value → Option Value → Nat → List Deferred → Option FrameMode → Hp → Prop) (X : Nat → Option Value → Option Value → Nat → List Deferred → Option FrameMode → Hp → Prop) (Y : Option Value → Option Value → Nat → List Deferred → Option FrameMode → Hp → Prop) : sev E1 60 10 (0 :: p10) false (codeOf Try.prog 10 (0 :: p10)) ⟨ov10 xs.length k s, 32, []⟩ none (hpM xs) (fun x => match x with | (.normal, fr, u, h) => N (fr.tm.find 0) (fr.tm.find 1) (fr.tm.find 10) (fr.tm.find 11) (fr.tm.find 12) fr.nt fr.df u h | (.exit j, fr, u, h) => X j (fr.tm.find 0) (fr.tm.find 1) fr.nt fr.df u h | (.ret, fr, u, h) => Y (fr.tm.find 4) (fr.tm.find 5) fr.nt fr.df u h | _ => False) =
  (br (decide (k < ↑(List.length xs)))
   (br (decide ((0 : Int) ≤ k ∧ k < ↑(List.length xs)))
    ((Eq (α := Option Value) ((List.map (Value.int IntKind.i64) xs)[(0 : Nat) + Int.toNat k * (1 : Nat)]?) (some (Value.int IntKind.i64 (cellI (List.map (Value.int IntKind.i64) xs) ((0 : Nat) + Int.toNat k * (1 : Nat)))))) ∧
    ((I64 (cellI (List.map (Value.int IntKind.i64) xs) ((0 : Nat) + Int.toNat k * (1 : Nat)))) ∧
    (br (!nextOk s (cellI (List.map (Value.int IntKind.i64) xs) ((0 : Nat) + Int.toNat k * (1 : Nat))))
     (Y (some (Value.int IntKind.i64 s)) (some (Value.int IntKind.i64 k)) (32 : Nat) [] none (Hp.mk (Tr.node Tr.leaf (some (Row.mk (List.map (Value.int IntKind.i64) xs) true Ob.cells)) Tr.leaf) (1 : Nat)))
     (N (some (Value.int IntKind.i64 (nextS s (cellI (List.map (Value.int IntKind.i64) xs) ((0 : Nat) + Int.toNat k * (1 : Nat)))))) (some (Value.slice (some (Addr.mk (0 : Nat) (0 : Nat) none)) (List.length xs) (1 : Nat))) (some (Value.slice (some (Addr.mk (0 : Nat) (0 : Nat) none)) (List.length xs) (1 : Nat))) (some (Value.int IntKind.i64 ↑(List.length xs))) (some (Value.int IntKind.i64 (IntKind.wrap IntKind.i64 (k + (1 : Int))))) (32 : Nat) [] none (Hp.mk (Tr.node Tr.leaf (some (Row.mk (List.map (Value.int IntKind.i64) xs) true Ob.cells)) Tr.leaf) (1 : Nat))))))
    False)
   (X (0 : Nat) (some (Value.int IntKind.i64 s)) (some (Value.slice (some (Addr.mk (0 : Nat) (0 : Nat) none)) (List.length xs) (1 : Nat))) (32 : Nat) [] none (Hp.mk (Tr.node Tr.leaf (some (Row.mk (List.map (Value.int IntKind.i64) xs) true Ob.cells)) Tr.leaf) (1 : Nat)))) := by kernel_rfl
theorem run_vc (xs : List Int) (s : Int) (v : Value) : scall (E2 xs s) 60 10 [.int .i64 s, .slice (some ⟨0, 0, none⟩) xs.length 1] ⟨ofR [xs.map (Value.int .i64)] 0 .leaf, 1⟩ (fun r => r.1 = .ret v) =
  ((Eq (α := Option Value) (some (Value.int IntKind.i64 s)) (some (Value.int IntKind.i64 s))) ∧
  ((Eq (α := Option Value) (some (Value.slice (some (Addr.mk (0 : Nat) (0 : Nat) none)) (List.length xs) (1 : Nat))) (some (Value.slice (some (Addr.mk (0 : Nat) (0 : Nat) none)) (List.length xs) (1 : Nat)))) ∧
  ((Eq (α := Option Value) (some (Value.slice (some (Addr.mk (0 : Nat) (0 : Nat) none)) (List.length xs) (1 : Nat))) (some (Value.slice (some (Addr.mk (0 : Nat) (0 : Nat) none)) (List.length xs) (1 : Nat)))) ∧
  ((Eq (α := Option Value) (some (Value.int IntKind.i64 (Int.ofNat (List.length xs)))) (some (Value.int IntKind.i64 ↑(List.length xs)))) ∧
  ((Eq (α := Option Value) (some (Value.int IntKind.i64 (0 : Int))) (some (Value.int IntKind.i64 (0 : Int)))) ∧
  (((32 : Nat) = (32 : Nat)) ∧
  ((Eq (α := List Deferred) ([]) ([])) ∧
  ((Eq (α := Option FrameMode) (none) (none)) ∧
  ((Hp.mk (Tr.node Tr.leaf (some (Row.mk (List.map (Value.int IntKind.i64) xs) true Ob.cells)) Tr.leaf) (1 : Nat) = Hp.mk (Tr.node Tr.leaf (some (Row.mk (List.map (Value.int IntKind.i64) xs) true Ob.cells)) Tr.leaf) (1 : Nat)) ∧
  (br (runN s xs == ↑(List.length xs))
   (End.ret (Value.tuple (Array.mk [Value.int IntKind.i64 (runS s xs), Value.int IntKind.i64 (Int.ofNat (List.length xs))])) = End.ret v)
   (End.ret (Value.tuple (Array.mk [Value.int IntKind.i64 (runS s xs), Value.int IntKind.i64 (runN s xs)])) = End.ret v))))))))))) := by kernel_rfl
theorem runnil_vc (s : Int) (v : Value) : scall E1 60 10 [.int .i64 s, .slice none 0 0] ⟨.leaf, 0⟩ (fun r => r.1 = .ret v) =
  (End.ret (Value.tuple (Array.mk [Value.int IntKind.i64 s, Value.int IntKind.i64 (0 : Int)])) = End.ret v) := by kernel_rfl
theorem body4_vc (xs : List Int) (n : Nat) (k s x5 x6 : Int) (N : Option Value → Option Value → Option Value → Option Value → Option Value → Nat → List Deferred → Option FrameMode → Hp → Prop) (X : Nat → Option Value → Option Value → Option Value → Option Value → Nat → List Deferred → Option FrameMode → Hp → Prop) : sev E3 60 4 (0 :: p4) false (codeOf Try.prog 4 (0 :: p4)) ⟨ov4 n k s x5 x6, 52, []⟩ none (hpM xs) (fun x => match x with | (.normal, fr, u, h) => N (fr.tm.find 1) (fr.tm.find 5) (fr.tm.find 6) (fr.tm.find 7) (fr.tm.find 8) fr.nt fr.df u h | (.exit j, fr, u, h) => X j (fr.tm.find 5) (fr.tm.find 6) (fr.tm.find 7) (fr.tm.find 8) fr.nt fr.df u h | _ => False) =
  (br (decide (k < Int.ofNat n))
   (br (decide ((0 : Int) ≤ k ∧ k < ↑n))
    ((Eq (α := Option Value) ((List.map (Value.int IntKind.i64) xs)[(0 : Nat) + Int.toNat k * (1 : Nat)]?) (some (Value.int IntKind.i64 (cellI (List.map (Value.int IntKind.i64) xs) ((0 : Nat) + Int.toNat k * (1 : Nat)))))) ∧
    ((I64 (cellI (List.map (Value.int IntKind.i64) xs) ((0 : Nat) + Int.toNat k * (1 : Nat)))) ∧
    (br (!nextOk s (cellI (List.map (Value.int IntKind.i64) xs) ((0 : Nat) + Int.toNat k * (1 : Nat))))
     (X (0 : Nat) (some (Value.int IntKind.i64 x5)) (some (Value.int IntKind.i64 x6)) (some (Value.int IntKind.i64 s)) (some (Value.int IntKind.i64 k)) (52 : Nat) [] none (Hp.mk (Tr.node Tr.leaf (some (Row.mk (List.map (Value.int IntKind.i64) xs) true Ob.cells)) Tr.leaf) (1 : Nat)))
     (N (some (Value.slice (some (Addr.mk (0 : Nat) (0 : Nat) none)) n (1 : Nat))) (some (Value.int IntKind.i64 x5)) (some (Value.int IntKind.i64 x6)) (some (Value.int IntKind.i64 (nextS s (cellI (List.map (Value.int IntKind.i64) xs) ((0 : Nat) + Int.toNat k * (1 : Nat)))))) (some (Value.int IntKind.i64 (IntKind.wrap IntKind.i64 (k + (1 : Int))))) (52 : Nat) [] none (Hp.mk (Tr.node Tr.leaf (some (Row.mk (List.map (Value.int IntKind.i64) xs) true Ob.cells)) Tr.leaf) (1 : Nat))))))
    False)
   (X (0 : Nat) (some (Value.int IntKind.i64 x5)) (some (Value.int IntKind.i64 x6)) (some (Value.int IntKind.i64 s)) (some (Value.int IntKind.i64 k)) (52 : Nat) [] none (Hp.mk (Tr.node Tr.leaf (some (Row.mk (List.map (Value.int IntKind.i64) xs) true Ob.cells)) Tr.leaf) (1 : Nat)))) := by kernel_rfl
theorem law_vc (xs : List Int) (s : Int) : scall (E4 xs) 60 4 [.int .i64 s, .slice (some ⟨0, 0, none⟩) xs.length 1] ⟨ofR [xs.map (Value.int .i64)] 0 .leaf, 1⟩ (fun r => r.1 = .ret (.bool true)) =
  (br (decide (Int.ofNat (List.length xs) > (100 : Int)))
   (br (decide ((0 : Int) ≤ ↑(0 : Nat) ∧ ↑(0 : Nat) ≤ (100 : Int) ∧ (100 : Int) ≤ ↑(List.length xs)))
    ((Ok10 (List.map (Value.int IntKind.i64) xs) ((0 : Nat) + (0 : Nat) * (1 : Nat)) (100 : Nat)) ∧
    (∃ n : Nat, (∃ t : Int, (∃ a : Int, (∃ b : Int, ((n ≤ List.length xs) ∧
    ((Eq (α := Option Value) (some (Value.slice (some (Addr.mk (0 : Nat) ((0 : Nat) + (0 : Nat) * (1 : Nat)) none)) (100 : Nat) (1 : Nat))) (some (Value.slice (some (Addr.mk (0 : Nat) (0 : Nat) none)) n (1 : Nat)))) ∧
    ((Eq (α := Option Value) (some (Value.int IntKind.i64 (runS s (seg (List.map (Value.int IntKind.i64) xs) ((0 : Nat) + Int.toNat ↑(0 : Nat) * TypeInfo.size (Tables.types (Program.toTables (Env.P (E4 xs))))[(3 : Nat)]) (Int.toNat (100 : Int) - Int.toNat ↑(0 : Nat)))))) (some (Value.int IntKind.i64 a))) ∧
    ((Eq (α := Option Value) (some (Value.int IntKind.i64 (runN s (seg (List.map (Value.int IntKind.i64) xs) ((0 : Nat) + Int.toNat ↑(0 : Nat) * TypeInfo.size (Tables.types (Program.toTables (Env.P (E4 xs))))[(3 : Nat)]) (Int.toNat (100 : Int) - Int.toNat ↑(0 : Nat)))))) (some (Value.int IntKind.i64 b))) ∧
    ((Eq (α := Option Value) (some (Value.int IntKind.i64 s)) (some (Value.int IntKind.i64 t))) ∧
    ((Eq (α := Option Value) (some (Value.int IntKind.i64 (0 : Int))) (some (Value.int IntKind.i64 (0 : Int)))) ∧
    (((52 : Nat) = (52 : Nat)) ∧
    ((Eq (α := List Deferred) ([]) ([])) ∧
    ((Eq (α := Option FrameMode) (none) (none)) ∧
    ((Hp.mk (Tr.node Tr.leaf (some (Row.mk (List.map (Value.int IntKind.i64) xs) true Ob.cells)) Tr.leaf) (1 : Nat) = Hp.mk (Tr.node Tr.leaf (some (Row.mk (List.map (Value.int IntKind.i64) xs) true Ob.cells)) Tr.leaf) (1 : Nat)) ∧
    (br (a == runS t (List.take n xs))
     (br (b == runN t (List.take n xs))
      ((True) ∧
      (End.ret (Value.bool true) = End.ret (Value.bool true)))
      (End.ret (Value.bool false) = End.ret (Value.bool true)))
     (End.ret (Value.bool false) = End.ret (Value.bool true))))))))))))))))))
    False)
   ((Ok10 (List.map (Value.int IntKind.i64) xs) (0 : Nat) (List.length xs)) ∧
   (∃ n : Nat, (∃ t : Int, (∃ a : Int, (∃ b : Int, ((n ≤ List.length xs) ∧
   ((Eq (α := Option Value) (some (Value.slice (some (Addr.mk (0 : Nat) (0 : Nat) none)) (List.length xs) (1 : Nat))) (some (Value.slice (some (Addr.mk (0 : Nat) (0 : Nat) none)) n (1 : Nat)))) ∧
   ((Eq (α := Option Value) (some (Value.int IntKind.i64 (runS s (seg (List.map (Value.int IntKind.i64) xs) (0 : Nat) (List.length xs))))) (some (Value.int IntKind.i64 a))) ∧
   ((Eq (α := Option Value) (some (Value.int IntKind.i64 (runN s (seg (List.map (Value.int IntKind.i64) xs) (0 : Nat) (List.length xs))))) (some (Value.int IntKind.i64 b))) ∧
   ((Eq (α := Option Value) (some (Value.int IntKind.i64 s)) (some (Value.int IntKind.i64 t))) ∧
   ((Eq (α := Option Value) (some (Value.int IntKind.i64 (0 : Int))) (some (Value.int IntKind.i64 (0 : Int)))) ∧
   (((52 : Nat) = (52 : Nat)) ∧
   ((Eq (α := List Deferred) ([]) ([])) ∧
   ((Eq (α := Option FrameMode) (none) (none)) ∧
   ((Hp.mk (Tr.node Tr.leaf (some (Row.mk (List.map (Value.int IntKind.i64) xs) true Ob.cells)) Tr.leaf) (1 : Nat) = Hp.mk (Tr.node Tr.leaf (some (Row.mk (List.map (Value.int IntKind.i64) xs) true Ob.cells)) Tr.leaf) (1 : Nat)) ∧
   (br (a == runS t (List.take n xs))
    (br (b == runN t (List.take n xs))
     ((True) ∧
     (End.ret (Value.bool true) = End.ret (Value.bool true)))
     (End.ret (Value.bool false) = End.ret (Value.bool true)))
    (End.ret (Value.bool false) = End.ret (Value.bool true))))))))))))))))))) := by kernel_rfl
theorem lawnil_vc (s : Int) : scall E3 60 4 [.int .i64 s, .slice none 0 0] ⟨.leaf, 0⟩ (fun r => r.1 = .ret (.bool true)) =
  ((True) ∧
  (br (s == s)
   ((True) ∧
   (End.ret (Value.bool true) = End.ret (Value.bool true)))
   (End.ret (Value.bool false) = End.ret (Value.bool true)))) := by kernel_rfl

theorem next_ok (s e : Int) (he : I64 e) : Flat Try.prog 12 [.int .i64 s, .int .i64 e] (.tuple #[.int .i64 (nextS s e), .bool (nextOk s e)]) := by
  refine flat_vc (E := E0) mixed (calls_bare _) (lok_bare _) (by kernel_rfl) rfl rfl (next_vc s e _) ?_
  unfold I64 at he
  have fin : ∀ (x : Int) (b : Bool), nextP s e = (x, b) → Ev.End.ret (Value.tuple (Array.mk [Value.int IntKind.i64 x, Value.bool b])) = Ev.End.ret (.tuple #[.int .i64 (nextS s e), .bool (nextOk s e)]) := by
    intro x b h; simp only [nextS, nextOk, h]
  by_cases h10 : e > 10
  · have w : IntKind.wrap .i64 (e - 10) = e - 10 := wr64_id ⟨by omega, by omega⟩
    have hp : plainE e = e - 10 := by simp [plainE, h10]
    have hs : side e = 2 := by simp [side, h10]
    rw [w, decide_eq_true h10]
    refine br_intro (fun _ => ?_) (fun h => by simp at h)
    (repeat' (refine br_intro (fun h => ?_) (fun h => ?_))) <;> refine fin _ _ ?_ <;> simp only [decide_eq_true_eq, decide_eq_false_iff_not, beq_iff_eq, beq_eq_false_iff_ne] at * <;> unfold nextP <;> rw [hp, hs] <;> (repeat' split) <;> first | rfl | omega | (simp; omega) | (exfalso; omega)
  · have hp : plainE e = e := by simp [plainE, h10]
    have hs : side e = 3 := by simp [side, h10]
    rw [decide_eq_false h10]
    refine br_intro (fun h => by simp at h) (fun _ => ?_)
    (repeat' (refine br_intro (fun h => ?_) (fun h => ?_))) <;> refine fin _ _ ?_ <;> simp only [decide_eq_true_eq, decide_eq_false_iff_not, beq_iff_eq, beq_eq_false_iff_ne] at * <;> unfold nextP <;> rw [hp, hs] <;> (repeat' split) <;> first | rfl | omega | (simp; omega) | (exfalso; omega)

theorem runs : Flat Try.prog 3 [] (.bool true) := fun w => run_closed mixed (by kernel_rfl) (args := []) rfl rfl (show ret? (Ev.run Try.prog 1000000 3 [] ⟨.leaf, 0⟩) = some (.bool true) by kernel_rfl) w

theorem br_t (X Y : Prop) : br true X Y = X := rfl
theorem br_f (X Y : Prop) : br false X Y = Y := rfl

set_option maxHeartbeats 4000000 in
theorem ref_ok (s e : Int) (he : I64 e) : Flat Try.prog 11 [.int .i64 s, .int .i64 e] (.tuple #[.int .i64 (nextS s e), .bool (nextOk s e)]) := by
  refine flat_vc (E := E0) mixed (calls_bare _) (lok_bare _) (by kernel_rfl) rfl rfl (ref_vc s e _) ?_
  unfold I64 at he
  have fin : ∀ (x : Int) (b : Bool), nextP s e = (x, b) → Ev.End.ret (Value.tuple (Array.mk [Value.int IntKind.i64 x, Value.bool b])) = Ev.End.ret (.tuple #[.int .i64 (nextS s e), .bool (nextOk s e)]) := by
    intro x b h; simp only [nextS, nextOk, h]
  by_cases h10 : e > 10
  · have w : IntKind.wrap .i64 (e - 10) = e - 10 := wr64_id ⟨by omega, by omega⟩
    have hp : plainE e = e - 10 := by simp [plainE, h10]
    have hs : side e = 2 := by simp [side, h10]
    rw [w, decide_eq_true h10, decide_eq_true (show e > 5 by omega)]
    simp only [br_t]
    (repeat' (refine br_intro (fun h => ?_) (fun h => ?_))) <;> refine fin _ _ ?_ <;> simp only [decide_eq_true_eq, decide_eq_false_iff_not, beq_iff_eq, beq_eq_false_iff_ne, bne_iff_ne, bne_eq_false_iff_eq, Bool.not_eq_true', Bool.not_eq_false'] at * <;> unfold nextP <;> rw [hp, hs] <;> (repeat' split) <;> first | rfl | omega | (simp; omega) | (exfalso; omega)
  · have hp : plainE e = e := by simp [plainE, h10]
    have hs : side e = 3 := by simp [side, h10]
    rw [decide_eq_false h10]
    simp only [br_f]
    (repeat' (refine br_intro (fun h => ?_) (fun h => ?_))) <;> refine fin _ _ ?_ <;> simp only [decide_eq_true_eq, decide_eq_false_iff_not, beq_iff_eq, beq_eq_false_iff_ne, bne_iff_ne, bne_eq_false_iff_eq, Bool.not_eq_true', Bool.not_eq_false'] at * <;> unfold nextP <;> rw [hp, hs] <;> (repeat' split) <;> first | rfl | omega | (simp; omega) | (exfalso; omega)

theorem calls1 : CallsOk E1.P (oOf E1) := by
  refine calls_flat fun f a h p v h' e hp => ?_
  change T1 f a h = _ at e
  unfold T1 at e
  split at e <;> simp only [Option.some.injEq, Prod.mk.injEq, reduceCtorEq] at e <;> obtain ⟨rfl, rfl, rfl⟩ := e
  exact ⟨rfl, rfl, rfl, next_ok _ _ hp⟩
theorem lok1 : LOk E1 := lok_none fun _ _ => rfl

/-! ### Lists -/
theorem drop_one (xs : List Int) {k : Nat} (h : k < xs.length) : xs.drop k = xs.getD k 0 :: xs.drop (k + 1) := by
  rw [List.drop_eq_getElem_cons h]; simp [List.getD, List.getElem?_eq_getElem h]
theorem run_yes {xs : List Int} {s : Int} {k : Nat} (h : k < xs.length) (hn : nextOk s (xs.getD k 0) = true) : runS s (xs.drop k) = runS (nextS s (xs.getD k 0)) (xs.drop (k + 1)) ∧ runN s (xs.drop k) = runN (nextS s (xs.getD k 0)) (xs.drop (k + 1)) + 1 := by
  rw [drop_one xs h]; unfold runS runN
  conv => lhs; lhs; unfold runL
  conv => rhs; lhs; unfold runL
  simp only [hn, if_true]
  exact ⟨trivial, by omega⟩
theorem run_no {xs : List Int} {s : Int} {k : Nat} (h : k < xs.length) (hn : nextOk s (xs.getD k 0) = false) : runS s (xs.drop k) = s ∧ runN s (xs.drop k) = 0 := by
  rw [drop_one xs h]; unfold runS runN
  unfold runL
  rw [hn]
  exact ⟨rfl, rfl⟩
theorem run_end {xs : List Int} {s : Int} {k : Nat} (h : xs.length ≤ k) : runS s (xs.drop k) = s ∧ runN s (xs.drop k) = 0 := by
  rw [List.drop_eq_nil_of_le h]; exact ⟨rfl, rfl⟩
theorem cell_ok {xs : List Int} (hx : ∀ x ∈ xs, I64 x) {k : Nat} (h : k < xs.length) : I64 (xs.getD k 0) := by
  have : xs.getD k 0 = xs[k] := by simp only [List.getD, List.getElem?_eq_getElem h, Option.getD_some]
  rw [this]; exact hx _ (List.getElem_mem h)

/-- Behind k events: state and count of the whole are these of the rest. -/
def At (xs : List Int) (s0 k s : Int) : Prop := 0 ≤ k ∧ k ≤ xs.length ∧ runS s0 xs = runS s (xs.drop k.toNat) ∧ runN s0 xs = k + runN s (xs.drop k.toNat)
theorem at_0 (xs : List Int) (s : Int) : At xs s 0 s := ⟨by omega, by omega, by simp, by simp⟩
theorem At.yes {xs : List Int} {s0 k s : Int} (h : At xs s0 k s) (hk : k < xs.length) (hn : nextOk s (xs.getD k.toNat 0) = true) : At xs s0 (k + 1) (nextS s (xs.getD k.toNat 0)) := by
  obtain ⟨h1, h2, h3, h4⟩ := h
  obtain ⟨r1, r2⟩ := run_yes (xs := xs) (s := s) (k := k.toNat) (by omega) hn
  refine ⟨by omega, by omega, ?_, ?_⟩ <;> rw [show (k + 1).toNat = k.toNat + 1 by omega]
  · rw [h3, r1]
  · rw [h4, r2]; omega
theorem At.no {xs : List Int} {s0 k s : Int} (h : At xs s0 k s) (hk : k < xs.length) (hn : nextOk s (xs.getD k.toNat 0) = false) : runS s0 xs = s ∧ runN s0 xs = k := by
  obtain ⟨h1, h2, h3, h4⟩ := h
  obtain ⟨r1, r2⟩ := run_no (xs := xs) (s := s) (k := k.toNat) (by omega) hn
  exact ⟨by rw [h3, r1], by rw [h4, r2]; omega⟩
theorem At.stop {xs : List Int} {s0 k s : Int} (h : At xs s0 k s) (hk : ¬ k < xs.length) : runS s0 xs = s ∧ runN s0 xs = xs.length := by
  obtain ⟨h1, h2, h3, h4⟩ := h
  obtain ⟨r1, r2⟩ := run_end (xs := xs) (s := s) (k := k.toNat) (by omega)
  exact ⟨by rw [h3, r1], by rw [h4, r2]; omega⟩

/-! ### The first way: Run -/
theorem body10_ok (xs : List Int) (hx : ∀ x ∈ xs, I64 x) (hlen : xs.length ≤ maxLen) (s0 k s : Int) (ha : At xs s0 k s) (N : Option Value → Option Value → Option Value → Option Value → Option Value → Nat → List Deferred → Option FrameMode → Hp → Prop) (X : Nat → Option Value → Option Value → Nat → List Deferred → Option FrameMode → Hp → Prop) (Y : Option Value → Option Value → Nat → List Deferred → Option FrameMode → Hp → Prop)
    (hX : runN s0 xs = xs.length → X 0 (some (.int .i64 (runS s0 xs))) (some (slc xs.length)) 32 [] none (hpM xs))
    (hY : ¬ runN s0 xs = xs.length → Y (some (.int .i64 (runS s0 xs))) (some (.int .i64 (runN s0 xs))) 32 [] none (hpM xs))
    (hN : ∀ s', k < xs.length → At xs s0 (k + 1) s' → N (some (.int .i64 s')) (some (slc xs.length)) (some (slc xs.length)) (some (.int .i64 xs.length)) (some (.int .i64 (k + 1))) 32 [] none (hpM xs)) :
    sev E1 60 10 (0 :: p10) false (codeOf Try.prog 10 (0 :: p10)) ⟨ov10 xs.length k s, 32, []⟩ none (hpM xs) (fun x => match x with | (.normal, fr, u, h) => N (fr.tm.find 0) (fr.tm.find 1) (fr.tm.find 10) (fr.tm.find 11) (fr.tm.find 12) fr.nt fr.df u h | (.exit j, fr, u, h) => X j (fr.tm.find 0) (fr.tm.find 1) fr.nt fr.df u h | (.ret, fr, u, h) => Y (fr.tm.find 4) (fr.tm.find 5) fr.nt fr.df u h | _ => False) := by
  refine (body10_vc xs k s N X Y).mpr ?_
  have h0 := ha.1
  refine br_intro (fun h1 => ?_) (fun h1 => ?_)
  · have h1 : k < xs.length := by simpa using h1
    have hi : (0 : Nat) + Int.toNat k * (1 : Nat) < xs.length := by omega
    obtain ⟨c1, c2⟩ := cell_map (k := .i64) hi
    have e0 : (0 : Nat) + Int.toNat k * (1 : Nat) = k.toNat := by omega
    refine br_intro (fun _ => ⟨c1, ?_, ?_⟩) (fun h => by simp at h; omega)
    · rw [c2]; exact cell_ok hx hi
    · rw [c2, e0]
      refine br_intro (fun h => ?_) (fun h => ?_)
      · have hn : nextOk s (xs.getD k.toNat 0) = false := by simpa using h
        obtain ⟨r1, r2⟩ := ha.no h1 hn
        have := hY (by omega)
        rw [r1, r2] at this; exact this
      · have hn : nextOk s (xs.getD k.toNat 0) = true := by simpa using h
        have w : IntKind.wrap .i64 (k + 1) = k + 1 := by
          unfold maxLen at hlen
          exact wr64_id ⟨by omega, by omega⟩
        rw [w]
        exact hN _ h1 (ha.yes h1 hn)
  · have h1 : ¬ k < xs.length := by simpa using h1
    obtain ⟨r1, r2⟩ := ha.stop h1
    have := hX r2
    rw [r1] at this; exact this

theorem loop10 (xs : List Int) (hx : ∀ x ∈ xs, I64 x) (hlen : xs.length ≤ maxLen) (s0 : Int) {fn : Func} {c0 body : Code} (hf : Try.prog.funcs[10]? = some fn) (hb : fn.body = some c0) (hbody : codeAt c0 (0 :: p10) = some body) {K : KO}
    (hK : br (runN s0 xs == xs.length) (K (.exit 0, ⟨mkOv [(0, .int .i64 (runS s0 xs)), (1, slc xs.length)], 32, []⟩, none, hpM xs)) (K (.ret, ⟨mkOv [(4, .int .i64 (runS s0 xs)), (5, .int .i64 (runN s0 xs))], 32, []⟩, none, hpM xs))) :
    ∀ i : Int × Int, At xs s0 i.1 i.2 → OkC E1 false (.loop body) ⟨ov10 xs.length i.1 i.2, 32, []⟩ none (hpM xs) K := by
  refine loop_ok (E := E1) (ι := Int × Int) (fun i => ov10 xs.length i.1 i.2) (fun _ => hpM xs) (fun i => At xs s0 i.1 i.2) (fun i => ((xs.length : Int) - i.1).toNat) (fun i hi => ?_)
  refine OkC.weaken ?_ (okC_of_sev (E := E1) lok1 hf hb hbody (body10_ok xs hx hlen s0 i.1 i.2 hi
    (fun a0 a1 a10 a11 a12 nt df u h => ∃ s', i.1 < xs.length ∧ At xs s0 (i.1 + 1) s' ∧ a0 = some (.int .i64 s') ∧ a1 = some (slc xs.length) ∧ a10 = some (slc xs.length) ∧ a11 = some (.int .i64 xs.length) ∧ a12 = some (.int .i64 (i.1 + 1)) ∧ nt = 32 ∧ df = [] ∧ u = none ∧ h = hpM xs)
    (fun j a0 a1 nt df u h => runN s0 xs = xs.length ∧ j = 0 ∧ a0 = some (.int .i64 (runS s0 xs)) ∧ a1 = some (slc xs.length) ∧ nt = 32 ∧ df = [] ∧ u = none ∧ h = hpM xs)
    (fun a4 a5 nt df u h => ¬ runN s0 xs = xs.length ∧ a4 = some (.int .i64 (runS s0 xs)) ∧ a5 = some (.int .i64 (runN s0 xs)) ∧ nt = 32 ∧ df = [] ∧ u = none ∧ h = hpM xs)
    (fun hr => ⟨hr, rfl, rfl, rfl, rfl, rfl, rfl, rfl⟩) (fun hr => ⟨hr, rfl, rfl, rfl, rfl, rfl, rfl⟩) (fun s' hk ha => ⟨s', hk, ha, rfl, rfl, rfl, rfl, rfl, rfl, rfl, rfl, rfl⟩)))
  intro e tm nt df u h hc
  cases e with
  | normal =>
    obtain ⟨s', hk, ha, e0, e1, e10, e11, e12, rfl, rfl, rfl, rfl⟩ := hc
    refine ⟨tm, Sub.refl _, (i.1 + 1, s'), ha, by simp only; omega, ?_, rfl, rfl, rfl, rfl⟩
    refine sub_mkOv _ ?_
    intro p hp
    simp only [List.mem_cons, List.not_mem_nil, or_false] at hp
    rcases hp with rfl | rfl | rfl | rfl | rfl
    · exact ⟨(by decide : (0 : Nat) < Tr.top), e0⟩
    · exact ⟨(by decide : (1 : Nat) < Tr.top), e1⟩
    · exact ⟨(by decide : (10 : Nat) < Tr.top), e10⟩
    · exact ⟨(by decide : (11 : Nat) < Tr.top), e11⟩
    · exact ⟨(by decide : (12 : Nat) < Tr.top), e12⟩
  | exit j =>
    obtain ⟨hr, rfl, e0, e1, rfl, rfl, rfl, rfl⟩ := hc
    rw [beq_iff_eq.2 hr] at hK
    refine ⟨_, ?_, hK⟩
    refine sub_mkOv _ ?_
    intro p hp
    simp only [List.mem_cons, List.not_mem_nil, or_false] at hp
    rcases hp with rfl | rfl
    · exact ⟨(by decide : (0 : Nat) < Tr.top), e0⟩
    · exact ⟨(by decide : (1 : Nat) < Tr.top), e1⟩
  | ret =>
    obtain ⟨hr, e4, e5, rfl, rfl, rfl, rfl⟩ := hc
    rw [beq_eq_false_iff_ne.2 hr] at hK
    refine ⟨_, ?_, hK⟩
    refine sub_mkOv _ ?_
    intro p hp
    simp only [List.mem_cons, List.not_mem_nil, or_false] at hp
    rcases hp with rfl | rfl
    · exact ⟨(by decide : (4 : Nat) < Tr.top), e4⟩
    · exact ⟨(by decide : (5 : Nat) < Tr.top), e5⟩
  | _ => exact hc.elim

theorem lok2 (xs : List Int) (hx : ∀ x ∈ xs, I64 x) (hlen : xs.length ≤ maxLen) (s : Int) : LOk (E2 xs s) := by
  intro f p spec fn c0 c hl hf hb hc fr u h K hs
  cases hq : (Nat.beq f 10 && decide (p = p10)) with
  | false => simp only [hq, cond_false] at hl; simp at hl
  | true =>
    simp only [hq, cond_true, Option.some.injEq] at hl
    subst hl
    simp only [Bool.and_eq_true, decide_eq_true_eq] at hq
    obtain ⟨h1, rfl⟩ := hq
    have h1 := Nat.eq_of_beq_eq_true h1
    subst h1
    obtain ⟨body, rfl, hbody⟩ := loop_of (P := Try.prog) (f := 10) (p := p10) (by kernel_rfl) hf hb hc
    obtain ⟨e0, e1, e10, e11, e12, e7, e8, rfl, rfl, hK⟩ := hs
    obtain ⟨tm, nt, df⟩ := fr
    simp only at e0 e1 e10 e11 e12 e7 e8
    subst e7; subst e8
    refine OkC.more (E := E1) (ov := ov10 xs.length 0 s) ?_ (loop10 xs hx hlen s hf hb hbody hK (0, s) (at_0 xs s))
    refine sub_mkOv _ ?_
    intro p hp
    simp only [List.mem_cons, List.not_mem_nil, or_false] at hp
    rcases hp with rfl | rfl | rfl | rfl | rfl
    · exact ⟨(by decide : (0 : Nat) < Tr.top), e0⟩
    · exact ⟨(by decide : (1 : Nat) < Tr.top), e1⟩
    · exact ⟨(by decide : (10 : Nat) < Tr.top), e10⟩
    · exact ⟨(by decide : (11 : Nat) < Tr.top), e11⟩
    · exact ⟨(by decide : (12 : Nat) < Tr.top), e12⟩

theorem run_rows (xs : List Int) (hx : ∀ x ∈ xs, I64 x) (hlen : xs.length ≤ maxLen) (s : Int) : RowsOk Try.prog 10 [.int .i64 s, .slice (some ⟨0, 0, none⟩) xs.length 1] [xs.map (Value.int .i64)] (.tuple #[.int .i64 (runS s xs), .int .i64 (runN s xs)]) := by
  refine rowsOk_of (E := E2 xs s) mixed (show CallsOk (E2 xs s).P (oOf (E2 xs s)) from calls1) (lok2 xs hx hlen s) (by kernel_rfl) (by simp) rfl (run_vc xs s _) ⟨rfl, rfl, rfl, rfl, rfl, rfl, rfl, rfl, rfl, ?_⟩
  refine br_intro (fun h => ?_) (fun _ => rfl)
  have h : runN s xs = xs.length := by simpa using h
  rw [h]; rfl
theorem run_nil (s : Int) : Flat Try.prog 10 [.int .i64 s, .slice none 0 0] (.tuple #[.int .i64 s, .int .i64 0]) :=
  flat_vc (E := E1) mixed calls1 lok1 (by kernel_rfl) rfl rfl (runnil_vc s _) rfl

/-! ### The other way: event by event -/
theorem seg_ok {xs : List Int} {k n : Nat} : seg (xs.map (Value.int .i64)) k n = (xs.drop k).take n := by
  unfold seg
  rw [← List.map_drop, ← List.map_take, List.map_map]
  have : intOf ∘ Value.int .i64 = id := rfl
  rw [this, List.map_id]
theorem flat_ints (xs : List Int) : (xs.map (Value.int .i64)).all (flat 12) = true := by
  rw [List.all_eq_true]
  intro v hv
  obtain ⟨x, _, rfl⟩ := List.mem_map.1 hv
  rfl

theorem calls3 : CallsOk E3.P (oOf E3) := by
  refine calls_rows fun f a h p v h' e hp => ?_
  change T2 f a h = _ at e
  unfold T2 at e
  split at e
  · simp only [Option.some.injEq, Prod.mk.injEq] at e
    obtain ⟨rfl, rfl, rfl⟩ := e
    exact flat_rows rfl rfl runs
  · simp only [Option.some.injEq, Prod.mk.injEq] at e
    obtain ⟨rfl, rfl, rfl⟩ := e
    exact flat_rows rfl rfl (run_nil _)
  · rename_i s r k n
    split at e
    · rename_i cells ro hr
      simp only [Option.some.injEq, Prod.mk.injEq] at e
      obtain ⟨rfl, rfl, rfl⟩ := e
      obtain ⟨xs, rfl, hx, hl, hm⟩ := hp
      rw [seg_ok]
      have hlen : ((xs.drop k).take n).length = n := by simp; omega
      have hcut : ((xs.map (Value.int .i64)).drop k).take n = ((xs.drop k).take n).map (Value.int .i64) := by rw [← List.map_drop, ← List.map_take]
      refine ⟨rfl, rfl, [.int .i64 s, .slice (some ⟨0, 0, none⟩) n 1], [((xs.drop k).take n).map (Value.int .i64)], ?_, ?_⟩
      · have c1 : (decide (k + n * 1 ≤ (xs.map (Value.int .i64)).length) && (((xs.map (Value.int .i64)).drop k).take (n * 1)).all (flat 12)) = true := by
          rw [Nat.mul_one, hcut, flat_ints, List.length_map, Bool.and_true, decide_eq_true hl]
        simp only [Nat.mul_one, hcut] at c1
        simp only [canon, hr, Nat.mul_one, hcut, c1, cond_true, show flat 12 (Value.int .i64 s) = true from rfl]
      · have := run_rows ((xs.drop k).take n) (fun x hxx => hx x (List.mem_of_mem_drop (List.mem_of_mem_take hxx))) (by rw [hlen]; omega) s
        rw [hlen] at this
        exact this
    · simp at e
  · simp only [Option.some.injEq, Prod.mk.injEq] at e
    obtain ⟨rfl, rfl, rfl⟩ := e
    exact flat_rows rfl rfl (ref_ok _ _ hp)
  · simp at e
theorem lok3 : LOk E3 := lok_none fun _ _ => rfl

theorem body4_ok (xs : List Int) (hx : ∀ x ∈ xs, I64 x) (hlen : xs.length ≤ maxLen) (n : Nat) (hn : n ≤ xs.length) (s0 x5 x6 k s : Int) (ha : At (xs.take n) s0 k s) (N : Option Value → Option Value → Option Value → Option Value → Option Value → Nat → List Deferred → Option FrameMode → Hp → Prop) (X : Nat → Option Value → Option Value → Option Value → Option Value → Nat → List Deferred → Option FrameMode → Hp → Prop)
    (hX : X 0 (some (.int .i64 x5)) (some (.int .i64 x6)) (some (.int .i64 (runS s0 (xs.take n)))) (some (.int .i64 (runN s0 (xs.take n)))) 52 [] none (hpM xs))
    (hN : ∀ s', k < n → At (xs.take n) s0 (k + 1) s' → N (some (slc n)) (some (.int .i64 x5)) (some (.int .i64 x6)) (some (.int .i64 s')) (some (.int .i64 (k + 1))) 52 [] none (hpM xs)) :
    sev E3 60 4 (0 :: p4) false (codeOf Try.prog 4 (0 :: p4)) ⟨ov4 n k s x5 x6, 52, []⟩ none (hpM xs) (fun x => match x with | (.normal, fr, u, h) => N (fr.tm.find 1) (fr.tm.find 5) (fr.tm.find 6) (fr.tm.find 7) (fr.tm.find 8) fr.nt fr.df u h | (.exit j, fr, u, h) => X j (fr.tm.find 5) (fr.tm.find 6) (fr.tm.find 7) (fr.tm.find 8) fr.nt fr.df u h | _ => False) := by
  refine (body4_vc xs n k s x5 x6 N X).mpr ?_
  have h0 := ha.1
  have htl : (xs.take n).length = n := by simp; omega
  refine br_intro (fun h1 => ?_) (fun h1 => ?_)
  · have h1 : k < (n : Int) := by simpa using h1
    have hi : (0 : Nat) + Int.toNat k * (1 : Nat) < xs.length := by omega
    obtain ⟨c1, c2⟩ := cell_map (k := .i64) hi
    have e0 : (0 : Nat) + Int.toNat k * (1 : Nat) = k.toNat := by omega
    have e1 : xs.getD k.toNat 0 = (xs.take n).getD k.toNat 0 := by simp [List.getD, show k.toNat < n by omega]
    refine br_intro (fun _ => ⟨c1, ?_, ?_⟩) (fun h => by simp at h; omega)
    · rw [c2]; exact cell_ok hx hi
    · rw [c2, e0, e1]
      refine br_intro (fun h => ?_) (fun h => ?_)
      · have hn : nextOk s ((xs.take n).getD k.toNat 0) = false := by simpa using h
        obtain ⟨r1, r2⟩ := ha.no (by omega) hn
        rw [r1, r2] at hX; exact hX
      · have hn : nextOk s ((xs.take n).getD k.toNat 0) = true := by simpa using h
        have w : IntKind.wrap .i64 (k + 1) = k + 1 := by
          unfold maxLen at hlen
          exact wr64_id ⟨by omega, by omega⟩
        rw [w]
        exact hN _ h1 (ha.yes (by omega) hn)
  · have h1 : ¬ k < (n : Int) := by simpa using h1
    obtain ⟨r1, r2⟩ := ha.stop (by omega)
    have hk := ha.2.1
    rw [r1, r2, show ((xs.take n).length : Int) = k by omega] at hX
    exact hX

theorem loop4 (xs : List Int) (hx : ∀ x ∈ xs, I64 x) (hlen : xs.length ≤ maxLen) (n : Nat) (hn : n ≤ xs.length) (s0 x5 x6 : Int) {fn : Func} {c0 body : Code} (hf : Try.prog.funcs[4]? = some fn) (hb : fn.body = some c0) (hbody : codeAt c0 (0 :: p4) = some body) {K : KO}
    (hK : K (.exit 0, ⟨mkOv [(5, .int .i64 x5), (6, .int .i64 x6), (7, .int .i64 (runS s0 (xs.take n))), (8, .int .i64 (runN s0 (xs.take n)))], 52, []⟩, none, hpM xs)) :
    ∀ i : Int × Int, At (xs.take n) s0 i.1 i.2 → OkC E3 false (.loop body) ⟨ov4 n i.1 i.2 x5 x6, 52, []⟩ none (hpM xs) K := by
  refine loop_ok (E := E3) (ι := Int × Int) (fun i => ov4 n i.1 i.2 x5 x6) (fun _ => hpM xs) (fun i => At (xs.take n) s0 i.1 i.2) (fun i => ((n : Int) - i.1).toNat) (fun i hi => ?_)
  refine OkC.weaken ?_ (okC_of_sev (E := E3) lok3 hf hb hbody (body4_ok xs hx hlen n hn s0 x5 x6 i.1 i.2 hi
    (fun a1 a5 a6 a7 a8 nt df u h => ∃ s', i.1 < n ∧ At (xs.take n) s0 (i.1 + 1) s' ∧ a1 = some (slc n) ∧ a5 = some (.int .i64 x5) ∧ a6 = some (.int .i64 x6) ∧ a7 = some (.int .i64 s') ∧ a8 = some (.int .i64 (i.1 + 1)) ∧ nt = 52 ∧ df = [] ∧ u = none ∧ h = hpM xs)
    (fun j a5 a6 a7 a8 nt df u h => j = 0 ∧ a5 = some (.int .i64 x5) ∧ a6 = some (.int .i64 x6) ∧ a7 = some (.int .i64 (runS s0 (xs.take n))) ∧ a8 = some (.int .i64 (runN s0 (xs.take n))) ∧ nt = 52 ∧ df = [] ∧ u = none ∧ h = hpM xs)
    ⟨rfl, rfl, rfl, rfl, rfl, rfl, rfl, rfl, rfl⟩ (fun s' hk ha => ⟨s', hk, ha, rfl, rfl, rfl, rfl, rfl, rfl, rfl, rfl, rfl⟩)))
  intro e tm nt df u h hc
  cases e with
  | normal =>
    obtain ⟨s', hk, ha, e1, e5, e6, e7, e8, rfl, rfl, rfl, rfl⟩ := hc
    refine ⟨tm, Sub.refl _, (i.1 + 1, s'), ha, by simp only; omega, ?_, rfl, rfl, rfl, rfl⟩
    refine sub_mkOv _ ?_
    intro p hp
    simp only [List.mem_cons, List.not_mem_nil, or_false] at hp
    rcases hp with rfl | rfl | rfl | rfl | rfl
    · exact ⟨(by decide : (1 : Nat) < Tr.top), e1⟩
    · exact ⟨(by decide : (5 : Nat) < Tr.top), e5⟩
    · exact ⟨(by decide : (6 : Nat) < Tr.top), e6⟩
    · exact ⟨(by decide : (7 : Nat) < Tr.top), e7⟩
    · exact ⟨(by decide : (8 : Nat) < Tr.top), e8⟩
  | exit j =>
    obtain ⟨rfl, e5, e6, e7, e8, rfl, rfl, rfl, rfl⟩ := hc
    refine ⟨_, ?_, hK⟩
    refine sub_mkOv _ ?_
    intro p hp
    simp only [List.mem_cons, List.not_mem_nil, or_false] at hp
    rcases hp with rfl | rfl | rfl | rfl
    · exact ⟨(by decide : (5 : Nat) < Tr.top), e5⟩
    · exact ⟨(by decide : (6 : Nat) < Tr.top), e6⟩
    · exact ⟨(by decide : (7 : Nat) < Tr.top), e7⟩
    · exact ⟨(by decide : (8 : Nat) < Tr.top), e8⟩
  | _ => exact hc.elim

theorem lok4 (xs : List Int) (hx : ∀ x ∈ xs, I64 x) (hlen : xs.length ≤ maxLen) : LOk (E4 xs) := by
  intro f p spec fn c0 c hl hf hb hc fr u h K hs
  cases hq : (Nat.beq f 4 && decide (p = p4)) with
  | false => simp only [hq, cond_false] at hl; simp at hl
  | true =>
    simp only [hq, cond_true, Option.some.injEq] at hl
    subst hl
    simp only [Bool.and_eq_true, decide_eq_true_eq] at hq
    obtain ⟨h1, rfl⟩ := hq
    have h1 := Nat.eq_of_beq_eq_true h1
    subst h1
    obtain ⟨body, rfl, hbody⟩ := loop_of (P := Try.prog) (f := 4) (p := p4) (by kernel_rfl) hf hb hc
    obtain ⟨n, t, a, b, hn, e1, e5, e6, e7, e8, h7, h8, rfl, rfl, hK⟩ := hs
    obtain ⟨tm, nt, df⟩ := fr
    simp only at e1 e5 e6 e7 e8 h7 h8
    subst h7; subst h8
    refine OkC.more (E := E3) (ov := ov4 n 0 t a b) ?_ (loop4 xs hx hlen n hn t a b hf hb hbody hK (0, t) (at_0 _ t))
    refine sub_mkOv _ ?_
    intro p hp
    simp only [List.mem_cons, List.not_mem_nil, or_false] at hp
    rcases hp with rfl | rfl | rfl | rfl | rfl
    · exact ⟨(by decide : (1 : Nat) < Tr.top), e1⟩
    · exact ⟨(by decide : (5 : Nat) < Tr.top), e5⟩
    · exact ⟨(by decide : (6 : Nat) < Tr.top), e6⟩
    · exact ⟨(by decide : (7 : Nat) < Tr.top), e7⟩
    · exact ⟨(by decide : (8 : Nat) < Tr.top), e8⟩

theorem goes_nil (s : Int) (_ : I64 s) : Flat Try.prog 4 [.int .i64 s, .slice none 0 0] (.bool true) := by
  refine flat_vc (E := E3) mixed calls3 lok3 (by kernel_rfl) rfl rfl (lawnil_vc s) ⟨trivial, ?_⟩
  exact br_intro (fun _ => ⟨trivial, rfl⟩) (fun h => by simp at h)
theorem same (a b : Int) (X Y : Prop) (e : a = b) (h : X) : br (a == b) X Y := br_intro (fun _ => h) (fun hh => absurd e (by simpa using hh))
theorem seg0 (xs : List Int) (z : Nat) : seg (xs.map (Value.int .i64)) ((0 : Nat) + Int.toNat ((0 : Nat) : Int) * z) (Int.toNat (100 : Int) - Int.toNat ((0 : Nat) : Int)) = xs.take 100 := by
  rw [seg_ok, show Int.toNat ((0 : Nat) : Int) = 0 from rfl, Nat.zero_mul]; rfl
theorem goes (xs : List Int) (s : Int) (hx : ∀ x ∈ xs, I64 x) (hlen : xs.length ≤ maxLen) (_ : I64 s) : RowsOk Try.prog 4 [.int .i64 s, .slice (some ⟨0, 0, none⟩) xs.length 1] [xs.map (Value.int .i64)] (.bool true) := by
  refine rowsOk_of (E := E4 xs) mixed (show CallsOk (E4 xs).P (oOf (E4 xs)) from calls3) (lok4 xs hx hlen) (by kernel_rfl) (by simp) rfl (law_vc xs s) ?_
  refine br_intro (fun h => br_intro (fun _ => ⟨⟨xs, rfl, hx, ?_, hlen⟩, 100, s, _, _, ?_, rfl, rfl, rfl, rfl, rfl, rfl, rfl, rfl, rfl, ?_⟩) (fun h2 => ?_)) (fun _ => ⟨⟨xs, rfl, hx, by omega, hlen⟩, xs.length, s, _, _, by omega, rfl, rfl, rfl, rfl, rfl, rfl, rfl, rfl, rfl, ?_⟩)
  · simp at h; omega
  · simp at h; omega
  · exact same _ _ _ _ (congrArg (runS s) (seg0 xs _)) (same _ _ _ _ (congrArg (runN s) (seg0 xs _)) ⟨trivial, rfl⟩)
  · simp at h h2; omega
  · rw [seg_ok]
    exact same _ _ _ _ rfl (same _ _ _ _ rfl ⟨trivial, rfl⟩)

end Go.Proofs.Ytcljhkbjpajfgaa.g
