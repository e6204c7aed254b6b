/- The law on streams seen from the other end. No condition. -/
import Derived.Test.YtcljhkbjpajfgaaSy3
import Derived.Test.YtcljhkbjpajfgaaRows
namespace Go.Proofs.Ytcljhkbjpajfgaa.m
open Go Go.Ev Go.Sy Go.RowKit

def side (e : Int) : Int := bif decide (e > 10) then 2 else 3
def plainE (e : Int) : Int := bif decide (e > 10) then e - 10 else e
def nextP (s e : Int) : Int × Bool :=
  if plainE e < 1 ∨ plainE e > 5 then (s, false)
  else if s = 0 then (if plainE e = 2 then (1, true) else if plainE e = 1 then (side e, true) else (0, false))
  else if s = 1 then (if plainE e = 5 then (4, true) else if plainE e = 1 ∨ plainE e = 3 then (side e, true) else (1, true))
  else if s = 2 ∨ s = 3 then (if plainE e = 5 then (4, true) else if s = side e then (s, false) else if plainE e = 1 ∨ plainE e = 3 then (4, true) else (s, true))
  else (s, false)
def nextS (s e : Int) : Int := (nextP s e).1
def nextOk (s e : Int) : Bool := (nextP s e).2
def T1 (f : FuncId) (args : List Value) (h : Hp) : Option (Prop × Value × Hp) :=
  match f, args with
  | 3, [] => some (True, .bool true, h)
  | 12, [.int .i64 s, .int .i64 e] => some (I64 e, .tuple #[.int .i64 (nextS s e), .bool (nextOk s e)], h)
  | _, _ => none
noncomputable abbrev E0 : Env := bare Try.prog
noncomputable abbrev E1 : Env := { P := Try.prog, T := T1, L := fun _ _ => none, sy := fun r => Nat.beq r 0 }
def pth : List Nat := [0, 1, 0, 1, 1]
def ovM (n : Nat) (k a b : Int) : Tr Value := mkOv [(0, .slice (some ⟨0, 0, none⟩) n 1), (3, .int .i64 a), (4, .int .i64 b), (5, .int .i64 k)]
def hpM (xs : List Int) : Hp := ⟨ofR [xs.map (Value.int .i64)] 0 .leaf, 1⟩
def specM (xs : List Int) : Sy.Spec := fun fr u h K =>
  fr.tm.find 0 = some (.slice (some ⟨0, 0, none⟩) xs.length 1) ∧ fr.tm.find 3 = some (.int .i64 0) ∧ fr.tm.find 4 = some (.int .i64 0) ∧ fr.tm.find 5 = some (.int .i64 0) ∧ fr.nt = 90 ∧ fr.df = [] ∧ u = none ∧ h = hpM xs ∧
    K (.exit 0, ⟨.leaf, 90, []⟩, none, hpM xs)
noncomputable abbrev E2 (xs : List Int) : Env := { P := Try.prog, T := T1, L := fun f p => bif Nat.beq f 6 && decide (p = pth) then some (specM xs) else none, sy := fun r => Nat.beq r 0 }
theorem mixed : Try.prog.follows .mixedOrders = true := by kernel_rfl
theorem next_vc (s e : Int) (v : Value) : scall E0 60 12 [.int .i64 s, .int .i64 e] ⟨.leaf, 0⟩ (fun r => r.1 = .ret v) =
  (br (decide (e > (10 : Int)))
   (br (decide (IntKind.wrap IntKind.i64 (e - (10 : Int)) < (1 : Int)))
    (End.ret (Value.tuple (Array.mk [Value.int IntKind.i64 s, Value.bool false])) = End.ret v)
    (br (decide (IntKind.wrap IntKind.i64 (e - (10 : Int)) > (5 : Int)))
     (End.ret (Value.tuple (Array.mk [Value.int IntKind.i64 s, Value.bool false])) = End.ret v)
     (br (s == (0 : Int))
      (br (IntKind.wrap IntKind.i64 (e - (10 : Int)) == (2 : Int))
       (End.ret (Value.tuple (Array.mk [Value.int IntKind.i64 (1 : Int), Value.bool true])) = End.ret v)
       (br (IntKind.wrap IntKind.i64 (e - (10 : Int)) == (1 : Int))
        (End.ret (Value.tuple (Array.mk [Value.int IntKind.i64 (2 : Int), Value.bool true])) = End.ret v)
        (End.ret (Value.tuple (Array.mk [Value.int IntKind.i64 (0 : Int), Value.bool false])) = End.ret v)))
      (br (s == (1 : Int))
       (br (IntKind.wrap IntKind.i64 (e - (10 : Int)) == (5 : Int))
        (End.ret (Value.tuple (Array.mk [Value.int IntKind.i64 (4 : Int), Value.bool true])) = End.ret v)
        (br (IntKind.wrap IntKind.i64 (e - (10 : Int)) == (1 : Int))
         (End.ret (Value.tuple (Array.mk [Value.int IntKind.i64 (2 : Int), Value.bool true])) = End.ret v)
         (br (IntKind.wrap IntKind.i64 (e - (10 : Int)) == (3 : Int))
          (End.ret (Value.tuple (Array.mk [Value.int IntKind.i64 (2 : Int), Value.bool true])) = End.ret v)
          (End.ret (Value.tuple (Array.mk [Value.int IntKind.i64 (1 : Int), Value.bool true])) = End.ret v))))
       (br (s == (2 : Int))
        (br (IntKind.wrap IntKind.i64 (e - (10 : Int)) == (5 : Int))
         (End.ret (Value.tuple (Array.mk [Value.int IntKind.i64 (4 : Int), Value.bool true])) = End.ret v)
         (br (s == (2 : Int))
          (End.ret (Value.tuple (Array.mk [Value.int IntKind.i64 s, Value.bool false])) = End.ret v)
          (br (IntKind.wrap IntKind.i64 (e - (10 : Int)) == (1 : Int))
           (End.ret (Value.tuple (Array.mk [Value.int IntKind.i64 (4 : Int), Value.bool true])) = End.ret v)
           (br (IntKind.wrap IntKind.i64 (e - (10 : Int)) == (3 : Int))
            (End.ret (Value.tuple (Array.mk [Value.int IntKind.i64 (4 : Int), Value.bool true])) = End.ret v)
            (End.ret (Value.tuple (Array.mk [Value.int IntKind.i64 s, Value.bool true])) = End.ret v)))))
        (br (s == (3 : Int))
         (br (IntKind.wrap IntKind.i64 (e - (10 : Int)) == (5 : Int))
          (End.ret (Value.tuple (Array.mk [Value.int IntKind.i64 (4 : Int), Value.bool true])) = End.ret v)
          (br (s == (2 : Int))
           (End.ret (Value.tuple (Array.mk [Value.int IntKind.i64 s, Value.bool false])) = End.ret v)
           (br (IntKind.wrap IntKind.i64 (e - (10 : Int)) == (1 : Int))
            (End.ret (Value.tuple (Array.mk [Value.int IntKind.i64 (4 : Int), Value.bool true])) = End.ret v)
            (br (IntKind.wrap IntKind.i64 (e - (10 : Int)) == (3 : Int))
             (End.ret (Value.tuple (Array.mk [Value.int IntKind.i64 (4 : Int), Value.bool true])) = End.ret v)
             (End.ret (Value.tuple (Array.mk [Value.int IntKind.i64 s, Value.bool true])) = End.ret v)))))
         (End.ret (Value.tuple (Array.mk [Value.int IntKind.i64 s, Value.bool false])) = End.ret v)))))))
   (br (decide (e < (1 : Int)))
    (End.ret (Value.tuple (Array.mk [Value.int IntKind.i64 s, Value.bool false])) = End.ret v)
    (br (decide (e > (5 : Int)))
     (End.ret (Value.tuple (Array.mk [Value.int IntKind.i64 s, Value.bool false])) = End.ret v)
     (br (s == (0 : Int))
      (br (e == (2 : Int))
       (End.ret (Value.tuple (Array.mk [Value.int IntKind.i64 (1 : Int), Value.bool true])) = End.ret v)
       (br (e == (1 : Int))
        (End.ret (Value.tuple (Array.mk [Value.int IntKind.i64 (3 : Int), Value.bool true])) = End.ret v)
        (End.ret (Value.tuple (Array.mk [Value.int IntKind.i64 (0 : Int), Value.bool false])) = End.ret v)))
      (br (s == (1 : Int))
       (br (e == (5 : Int))
        (End.ret (Value.tuple (Array.mk [Value.int IntKind.i64 (4 : Int), Value.bool true])) = End.ret v)
        (br (e == (1 : Int))
         (End.ret (Value.tuple (Array.mk [Value.int IntKind.i64 (3 : Int), Value.bool true])) = End.ret v)
         (br (e == (3 : Int))
          (End.ret (Value.tuple (Array.mk [Value.int IntKind.i64 (3 : Int), Value.bool true])) = End.ret v)
          (End.ret (Value.tuple (Array.mk [Value.int IntKind.i64 (1 : Int), Value.bool true])) = End.ret v))))
       (br (s == (2 : Int))
        (br (e == (5 : Int))
         (End.ret (Value.tuple (Array.mk [Value.int IntKind.i64 (4 : Int), Value.bool true])) = End.ret v)
         (br (s == (3 : Int))
          (End.ret (Value.tuple (Array.mk [Value.int IntKind.i64 s, Value.bool false])) = End.ret v)
          (br (e == (1 : Int))
           (End.ret (Value.tuple (Array.mk [Value.int IntKind.i64 (4 : Int), Value.bool true])) = End.ret v)
           (br (e == (3 : Int))
            (End.ret (Value.tuple (Array.mk [Value.int IntKind.i64 (4 : Int), Value.bool true])) = End.ret v)
            (End.ret (Value.tuple (Array.mk [Value.int IntKind.i64 s, Value.bool true])) = End.ret v)))))
        (br (s == (3 : Int))
         (br (e == (5 : Int))
          (End.ret (Value.tuple (Array.mk [Value.int IntKind.i64 (4 : Int), Value.bool true])) = End.ret v)
          (br (s == (3 : Int))
           (End.ret (Value.tuple (Array.mk [Value.int IntKind.i64 s, Value.bool false])) = End.ret v)
           (br (e == (1 : Int))
            (End.ret (Value.tuple (Array.mk [Value.int IntKind.i64 (4 : Int), Value.bool true])) = End.ret v)
            (br (e == (3 : Int))
             (End.ret (Value.tuple (Array.mk [Value.int IntKind.i64 (4 : Int), Value.bool true])) = End.ret v)
             (End.ret (Value.tuple (Array.mk [Value.int IntKind.i64 s, Value.bool true])) = End.ret v)))))
         (End.ret (Value.tuple (Array.mk [Value.int IntKind.i64 s, Value.bool false])) = End.ret v)))))))) := by kernel_rfl
theorem nil_vc  : scall E1 60 6 [.slice none 0 0] ⟨.leaf, 0⟩ (fun r => r.1 = .ret (.bool true)) =
  ((True) ∧
  (End.ret (Value.bool true) = End.ret (Value.bool true))) := by kernel_rfl
theorem law_vc (xs : List Int) : scall (E2 xs) 60 6 [.slice (some ⟨0, 0, none⟩) xs.length 1] ⟨ofR [xs.map (Value.int .i64)] 0 .leaf, 1⟩ (fun r => r.1 = .ret (.bool true)) =
  ((Eq (α := Option Value) (some (Value.slice (some (Addr.mk (0 : Nat) (0 : Nat) none)) (List.length xs) (1 : Nat))) (some (Value.slice (some (Addr.mk (0 : Nat) (0 : Nat) none)) (List.length xs) (1 : Nat)))) ∧
  ((Eq (α := Option Value) (some (Value.int IntKind.i64 (0 : Int))) (some (Value.int IntKind.i64 (0 : Int)))) ∧
  ((Eq (α := Option Value) (some (Value.int IntKind.i64 (0 : Int))) (some (Value.int IntKind.i64 (0 : Int)))) ∧
  ((Eq (α := Option Value) (some (Value.int IntKind.i64 (0 : Int))) (some (Value.int IntKind.i64 (0 : Int)))) ∧
  (((90 : Nat) = (90 : Nat)) ∧
  ((Eq (α := List Deferred) ([]) ([])) ∧
  ((Eq (α := Option FrameMode) (none) (none)) ∧
  ((Hp.mk (Tr.node Tr.leaf (some (Row.mk (List.map (Value.int IntKind.i64) xs) true Ob.cells)) Tr.leaf) (1 : Nat) = Hp.mk (Tr.node Tr.leaf (some (Row.mk (List.map (Value.int IntKind.i64) xs) true Ob.cells)) Tr.leaf) (1 : Nat)) ∧
  ((True) ∧
  (End.ret (Value.bool true) = End.ret (Value.bool true))))))))))) := by kernel_rfl
theorem mir_vc (xs : List Int) (k a b : Int) (N : Option Value → Option Value → Option Value → Option Value → Nat → List Deferred → Option FrameMode → Hp → Prop) (X : Nat → Nat → List Deferred → Option FrameMode → Hp → Prop) : sev E1 60 6 (0 :: pth) false (codeOf Try.prog 6 (0 :: pth)) ⟨ovM xs.length k a b, 90, []⟩ none (hpM xs) (fun x => match x with | (.normal, fr, u, h) => N (fr.tm.find 0) (fr.tm.find 3) (fr.tm.find 4) (fr.tm.find 5) fr.nt fr.df u h | (.exit j, fr, u, h) => X j fr.nt fr.df u h | _ => False) =
  (br (decide (k < Int.ofNat (List.length xs)))
   (br (decide (k < (100 : Int)))
    (br (decide ((0 : Int) ≤ k ∧ k < ↑(List.length xs)))
     ((Eq (α := Option Value) ((List.map (Value.int IntKind.i64) xs)[(0 : Nat) + Int.toNat k * (1 : Nat)]?) (some (Value.int IntKind.i64 (cellI (List.map (Value.int IntKind.i64) xs) ((0 : Nat) + Int.toNat k * (1 : Nat)))))) ∧
     (br (decide (cellI (List.map (Value.int IntKind.i64) xs) ((0 : Nat) + Int.toNat k * (1 : Nat)) > (10 : Int)))
      (br (decide (cellI (List.map (Value.int IntKind.i64) xs) ((0 : Nat) + Int.toNat k * (1 : Nat)) < (1 : Int)))
       (N (some (Value.slice (some (Addr.mk (0 : Nat) (0 : Nat) none)) (List.length xs) (1 : Nat))) (some (Value.int IntKind.i64 a)) (some (Value.int IntKind.i64 b)) (some (Value.int IntKind.i64 (IntKind.wrap IntKind.i64 (k + (1 : Int))))) (90 : Nat) [] none (Hp.mk (Tr.node Tr.leaf (some (Row.mk (List.map (Value.int IntKind.i64) xs) true Ob.cells)) Tr.leaf) (1 : Nat)))
       (br (decide (cellI (List.map (Value.int IntKind.i64) xs) ((0 : Nat) + Int.toNat k * (1 : Nat)) > (15 : Int)))
        (N (some (Value.slice (some (Addr.mk (0 : Nat) (0 : Nat) none)) (List.length xs) (1 : Nat))) (some (Value.int IntKind.i64 a)) (some (Value.int IntKind.i64 b)) (some (Value.int IntKind.i64 (IntKind.wrap IntKind.i64 (k + (1 : Int))))) (90 : Nat) [] none (Hp.mk (Tr.node Tr.leaf (some (Row.mk (List.map (Value.int IntKind.i64) xs) true Ob.cells)) Tr.leaf) (1 : Nat)))
        (br (decide (cellI (List.map (Value.int IntKind.i64) xs) ((0 : Nat) + Int.toNat k * (1 : Nat)) > (5 : Int)))
         (br (decide (cellI (List.map (Value.int IntKind.i64) xs) ((0 : Nat) + Int.toNat k * (1 : Nat)) < (11 : Int)))
          (N (some (Value.slice (some (Addr.mk (0 : Nat) (0 : Nat) none)) (List.length xs) (1 : Nat))) (some (Value.int IntKind.i64 a)) (some (Value.int IntKind.i64 b)) (some (Value.int IntKind.i64 (IntKind.wrap IntKind.i64 (k + (1 : Int))))) (90 : Nat) [] none (Hp.mk (Tr.node Tr.leaf (some (Row.mk (List.map (Value.int IntKind.i64) xs) true Ob.cells)) Tr.leaf) (1 : Nat)))
          ((I64 (cellI (List.map (Value.int IntKind.i64) xs) ((0 : Nat) + Int.toNat k * (1 : Nat)))) ∧
          ((I64 (IntKind.wrap IntKind.i64 (cellI (List.map (Value.int IntKind.i64) xs) ((0 : Nat) + Int.toNat k * (1 : Nat)) - (10 : Int)))) ∧
          (br (!nextOk a (cellI (List.map (Value.int IntKind.i64) xs) ((0 : Nat) + Int.toNat k * (1 : Nat))) == nextOk b (IntKind.wrap IntKind.i64 (cellI (List.map (Value.int IntKind.i64) xs) ((0 : Nat) + Int.toNat k * (1 : Nat)) - (10 : Int))))
           False
           (br (!(nextS a (cellI (List.map (Value.int IntKind.i64) xs) ((0 : Nat) + Int.toNat k * (1 : Nat))) == (2 : Int)) == (nextS b (IntKind.wrap IntKind.i64 (cellI (List.map (Value.int IntKind.i64) xs) ((0 : Nat) + Int.toNat k * (1 : Nat)) - (10 : Int))) == (3 : Int)))
            False
            (br (!(nextS a (cellI (List.map (Value.int IntKind.i64) xs) ((0 : Nat) + Int.toNat k * (1 : Nat))) == (3 : Int)) == (nextS b (IntKind.wrap IntKind.i64 (cellI (List.map (Value.int IntKind.i64) xs) ((0 : Nat) + Int.toNat k * (1 : Nat)) - (10 : Int))) == (2 : Int)))
             False
             (br (!(nextS a (cellI (List.map (Value.int IntKind.i64) xs) ((0 : Nat) + Int.toNat k * (1 : Nat))) == (1 : Int)) == (nextS b (IntKind.wrap IntKind.i64 (cellI (List.map (Value.int IntKind.i64) xs) ((0 : Nat) + Int.toNat k * (1 : Nat)) - (10 : Int))) == (1 : Int)))
              False
              (br (!(nextS a (cellI (List.map (Value.int IntKind.i64) xs) ((0 : Nat) + Int.toNat k * (1 : Nat))) == (4 : Int)) == (nextS b (IntKind.wrap IntKind.i64 (cellI (List.map (Value.int IntKind.i64) xs) ((0 : Nat) + Int.toNat k * (1 : Nat)) - (10 : Int))) == (4 : Int)))
               False
               (N (some (Value.slice (some (Addr.mk (0 : Nat) (0 : Nat) none)) (List.length xs) (1 : Nat))) (some (Value.int IntKind.i64 (nextS a (cellI (List.map (Value.int IntKind.i64) xs) ((0 : Nat) + Int.toNat k * (1 : Nat)))))) (some (Value.int IntKind.i64 (nextS b (IntKind.wrap IntKind.i64 (cellI (List.map (Value.int IntKind.i64) xs) ((0 : Nat) + Int.toNat k * (1 : Nat)) - (10 : Int)))))) (some (Value.int IntKind.i64 (IntKind.wrap IntKind.i64 (k + (1 : Int))))) (90 : Nat) [] none (Hp.mk (Tr.node Tr.leaf (some (Row.mk (List.map (Value.int IntKind.i64) xs) true Ob.cells)) Tr.leaf) (1 : Nat)))))))))))
         ((I64 (cellI (List.map (Value.int IntKind.i64) xs) ((0 : Nat) + Int.toNat k * (1 : Nat)))) ∧
         ((I64 (IntKind.wrap IntKind.i64 (cellI (List.map (Value.int IntKind.i64) xs) ((0 : Nat) + Int.toNat k * (1 : Nat)) - (10 : Int)))) ∧
         (br (!nextOk a (cellI (List.map (Value.int IntKind.i64) xs) ((0 : Nat) + Int.toNat k * (1 : Nat))) == nextOk b (IntKind.wrap IntKind.i64 (cellI (List.map (Value.int IntKind.i64) xs) ((0 : Nat) + Int.toNat k * (1 : Nat)) - (10 : Int))))
          False
          (br (!(nextS a (cellI (List.map (Value.int IntKind.i64) xs) ((0 : Nat) + Int.toNat k * (1 : Nat))) == (2 : Int)) == (nextS b (IntKind.wrap IntKind.i64 (cellI (List.map (Value.int IntKind.i64) xs) ((0 : Nat) + Int.toNat k * (1 : Nat)) - (10 : Int))) == (3 : Int)))
           False
           (br (!(nextS a (cellI (List.map (Value.int IntKind.i64) xs) ((0 : Nat) + Int.toNat k * (1 : Nat))) == (3 : Int)) == (nextS b (IntKind.wrap IntKind.i64 (cellI (List.map (Value.int IntKind.i64) xs) ((0 : Nat) + Int.toNat k * (1 : Nat)) - (10 : Int))) == (2 : Int)))
            False
            (br (!(nextS a (cellI (List.map (Value.int IntKind.i64) xs) ((0 : Nat) + Int.toNat k * (1 : Nat))) == (1 : Int)) == (nextS b (IntKind.wrap IntKind.i64 (cellI (List.map (Value.int IntKind.i64) xs) ((0 : Nat) + Int.toNat k * (1 : Nat)) - (10 : Int))) == (1 : Int)))
             False
             (br (!(nextS a (cellI (List.map (Value.int IntKind.i64) xs) ((0 : Nat) + Int.toNat k * (1 : Nat))) == (4 : Int)) == (nextS b (IntKind.wrap IntKind.i64 (cellI (List.map (Value.int IntKind.i64) xs) ((0 : Nat) + Int.toNat k * (1 : Nat)) - (10 : Int))) == (4 : Int)))
              False
              (N (some (Value.slice (some (Addr.mk (0 : Nat) (0 : Nat) none)) (List.length xs) (1 : Nat))) (some (Value.int IntKind.i64 (nextS a (cellI (List.map (Value.int IntKind.i64) xs) ((0 : Nat) + Int.toNat k * (1 : Nat)))))) (some (Value.int IntKind.i64 (nextS b (IntKind.wrap IntKind.i64 (cellI (List.map (Value.int IntKind.i64) xs) ((0 : Nat) + Int.toNat k * (1 : Nat)) - (10 : Int)))))) (some (Value.int IntKind.i64 (IntKind.wrap IntKind.i64 (k + (1 : Int))))) (90 : Nat) [] none (Hp.mk (Tr.node Tr.leaf (some (Row.mk (List.map (Value.int IntKind.i64) xs) true Ob.cells)) Tr.leaf) (1 : Nat)))))))))))))
      (br (decide (cellI (List.map (Value.int IntKind.i64) xs) ((0 : Nat) + Int.toNat k * (1 : Nat)) < (1 : Int)))
       (N (some (Value.slice (some (Addr.mk (0 : Nat) (0 : Nat) none)) (List.length xs) (1 : Nat))) (some (Value.int IntKind.i64 a)) (some (Value.int IntKind.i64 b)) (some (Value.int IntKind.i64 (IntKind.wrap IntKind.i64 (k + (1 : Int))))) (90 : Nat) [] none (Hp.mk (Tr.node Tr.leaf (some (Row.mk (List.map (Value.int IntKind.i64) xs) true Ob.cells)) Tr.leaf) (1 : Nat)))
       (br (decide (cellI (List.map (Value.int IntKind.i64) xs) ((0 : Nat) + Int.toNat k * (1 : Nat)) > (15 : Int)))
        (N (some (Value.slice (some (Addr.mk (0 : Nat) (0 : Nat) none)) (List.length xs) (1 : Nat))) (some (Value.int IntKind.i64 a)) (some (Value.int IntKind.i64 b)) (some (Value.int IntKind.i64 (IntKind.wrap IntKind.i64 (k + (1 : Int))))) (90 : Nat) [] none (Hp.mk (Tr.node Tr.leaf (some (Row.mk (List.map (Value.int IntKind.i64) xs) true Ob.cells)) Tr.leaf) (1 : Nat)))
        (br (decide (cellI (List.map (Value.int IntKind.i64) xs) ((0 : Nat) + Int.toNat k * (1 : Nat)) > (5 : Int)))
         (br (decide (cellI (List.map (Value.int IntKind.i64) xs) ((0 : Nat) + Int.toNat k * (1 : Nat)) < (11 : Int)))
          (N (some (Value.slice (some (Addr.mk (0 : Nat) (0 : Nat) none)) (List.length xs) (1 : Nat))) (some (Value.int IntKind.i64 a)) (some (Value.int IntKind.i64 b)) (some (Value.int IntKind.i64 (IntKind.wrap IntKind.i64 (k + (1 : Int))))) (90 : Nat) [] none (Hp.mk (Tr.node Tr.leaf (some (Row.mk (List.map (Value.int IntKind.i64) xs) true Ob.cells)) Tr.leaf) (1 : Nat)))
          ((I64 (cellI (List.map (Value.int IntKind.i64) xs) ((0 : Nat) + Int.toNat k * (1 : Nat)))) ∧
          ((I64 (IntKind.wrap IntKind.i64 (cellI (List.map (Value.int IntKind.i64) xs) ((0 : Nat) + Int.toNat k * (1 : Nat)) + (10 : Int)))) ∧
          (br (!nextOk a (cellI (List.map (Value.int IntKind.i64) xs) ((0 : Nat) + Int.toNat k * (1 : Nat))) == nextOk b (IntKind.wrap IntKind.i64 (cellI (List.map (Value.int IntKind.i64) xs) ((0 : Nat) + Int.toNat k * (1 : Nat)) + (10 : Int))))
           False
           (br (!(nextS a (cellI (List.map (Value.int IntKind.i64) xs) ((0 : Nat) + Int.toNat k * (1 : Nat))) == (2 : Int)) == (nextS b (IntKind.wrap IntKind.i64 (cellI (List.map (Value.int IntKind.i64) xs) ((0 : Nat) + Int.toNat k * (1 : Nat)) + (10 : Int))) == (3 : Int)))
            False
            (br (!(nextS a (cellI (List.map (Value.int IntKind.i64) xs) ((0 : Nat) + Int.toNat k * (1 : Nat))) == (3 : Int)) == (nextS b (IntKind.wrap IntKind.i64 (cellI (List.map (Value.int IntKind.i64) xs) ((0 : Nat) + Int.toNat k * (1 : Nat)) + (10 : Int))) == (2 : Int)))
             False
             (br (!(nextS a (cellI (List.map (Value.int IntKind.i64) xs) ((0 : Nat) + Int.toNat k * (1 : Nat))) == (1 : Int)) == (nextS b (IntKind.wrap IntKind.i64 (cellI (List.map (Value.int IntKind.i64) xs) ((0 : Nat) + Int.toNat k * (1 : Nat)) + (10 : Int))) == (1 : Int)))
              False
              (br (!(nextS a (cellI (List.map (Value.int IntKind.i64) xs) ((0 : Nat) + Int.toNat k * (1 : Nat))) == (4 : Int)) == (nextS b (IntKind.wrap IntKind.i64 (cellI (List.map (Value.int IntKind.i64) xs) ((0 : Nat) + Int.toNat k * (1 : Nat)) + (10 : Int))) == (4 : Int)))
               False
               (N (some (Value.slice (some (Addr.mk (0 : Nat) (0 : Nat) none)) (List.length xs) (1 : Nat))) (some (Value.int IntKind.i64 (nextS a (cellI (List.map (Value.int IntKind.i64) xs) ((0 : Nat) + Int.toNat k * (1 : Nat)))))) (some (Value.int IntKind.i64 (nextS b (IntKind.wrap IntKind.i64 (cellI (List.map (Value.int IntKind.i64) xs) ((0 : Nat) + Int.toNat k * (1 : Nat)) + (10 : Int)))))) (some (Value.int IntKind.i64 (IntKind.wrap IntKind.i64 (k + (1 : Int))))) (90 : Nat) [] none (Hp.mk (Tr.node Tr.leaf (some (Row.mk (List.map (Value.int IntKind.i64) xs) true Ob.cells)) Tr.leaf) (1 : Nat)))))))))))
         ((I64 (cellI (List.map (Value.int IntKind.i64) xs) ((0 : Nat) + Int.toNat k * (1 : Nat)))) ∧
         ((I64 (IntKind.wrap IntKind.i64 (cellI (List.map (Value.int IntKind.i64) xs) ((0 : Nat) + Int.toNat k * (1 : Nat)) + (10 : Int)))) ∧
         (br (!nextOk a (cellI (List.map (Value.int IntKind.i64) xs) ((0 : Nat) + Int.toNat k * (1 : Nat))) == nextOk b (IntKind.wrap IntKind.i64 (cellI (List.map (Value.int IntKind.i64) xs) ((0 : Nat) + Int.toNat k * (1 : Nat)) + (10 : Int))))
          False
          (br (!(nextS a (cellI (List.map (Value.int IntKind.i64) xs) ((0 : Nat) + Int.toNat k * (1 : Nat))) == (2 : Int)) == (nextS b (IntKind.wrap IntKind.i64 (cellI (List.map (Value.int IntKind.i64) xs) ((0 : Nat) + Int.toNat k * (1 : Nat)) + (10 : Int))) == (3 : Int)))
           False
           (br (!(nextS a (cellI (List.map (Value.int IntKind.i64) xs) ((0 : Nat) + Int.toNat k * (1 : Nat))) == (3 : Int)) == (nextS b (IntKind.wrap IntKind.i64 (cellI (List.map (Value.int IntKind.i64) xs) ((0 : Nat) + Int.toNat k * (1 : Nat)) + (10 : Int))) == (2 : Int)))
            False
            (br (!(nextS a (cellI (List.map (Value.int IntKind.i64) xs) ((0 : Nat) + Int.toNat k * (1 : Nat))) == (1 : Int)) == (nextS b (IntKind.wrap IntKind.i64 (cellI (List.map (Value.int IntKind.i64) xs) ((0 : Nat) + Int.toNat k * (1 : Nat)) + (10 : Int))) == (1 : Int)))
             False
             (br (!(nextS a (cellI (List.map (Value.int IntKind.i64) xs) ((0 : Nat) + Int.toNat k * (1 : Nat))) == (4 : Int)) == (nextS b (IntKind.wrap IntKind.i64 (cellI (List.map (Value.int IntKind.i64) xs) ((0 : Nat) + Int.toNat k * (1 : Nat)) + (10 : Int))) == (4 : Int)))
              False
              (N (some (Value.slice (some (Addr.mk (0 : Nat) (0 : Nat) none)) (List.length xs) (1 : Nat))) (some (Value.int IntKind.i64 (nextS a (cellI (List.map (Value.int IntKind.i64) xs) ((0 : Nat) + Int.toNat k * (1 : Nat)))))) (some (Value.int IntKind.i64 (nextS b (IntKind.wrap IntKind.i64 (cellI (List.map (Value.int IntKind.i64) xs) ((0 : Nat) + Int.toNat k * (1 : Nat)) + (10 : Int)))))) (some (Value.int IntKind.i64 (IntKind.wrap IntKind.i64 (k + (1 : Int))))) (90 : Nat) [] none (Hp.mk (Tr.node Tr.leaf (some (Row.mk (List.map (Value.int IntKind.i64) xs) true Ob.cells)) Tr.leaf) (1 : Nat)))))))))))))))
     False)
    (X (0 : Nat) (90 : Nat) [] none (Hp.mk (Tr.node Tr.leaf (some (Row.mk (List.map (Value.int IntKind.i64) xs) true Ob.cells)) Tr.leaf) (1 : Nat))))
   (X (0 : Nat) (90 : Nat) [] none (Hp.mk (Tr.node Tr.leaf (some (Row.mk (List.map (Value.int IntKind.i64) xs) true Ob.cells)) Tr.leaf) (1 : Nat)))) := by kernel_rfl

theorem next_ok (s e : Int) (he : I64 e) : Flat Try.prog 12 [.int .i64 s, .int .i64 e] (.tuple #[.int .i64 (nextS s e), .bool (nextOk s e)]) := by
  refine flat_vc (E := E0) mixed (calls_bare _) (lok_bare _) (by kernel_rfl) rfl rfl (next_vc s e _) ?_
  unfold I64 at he
  have fin : ∀ (x : Int) (b : Bool), nextP s e = (x, b) → Ev.End.ret (Value.tuple (Array.mk [Value.int IntKind.i64 x, Value.bool b])) = Ev.End.ret (.tuple #[.int .i64 (nextS s e), .bool (nextOk s e)]) := by
    intro x b h; simp only [nextS, nextOk, h]
  by_cases h10 : e > 10
  · have w : IntKind.wrap .i64 (e - 10) = e - 10 := wr64_id ⟨by omega, by omega⟩
    have hp : plainE e = e - 10 := by simp [plainE, h10]
    have hs : side e = 2 := by simp [side, h10]
    rw [w, decide_eq_true h10]
    refine br_intro (fun _ => ?_) (fun h => by simp at h)
    (repeat' (refine br_intro (fun h => ?_) (fun h => ?_))) <;> refine fin _ _ ?_ <;> simp only [decide_eq_true_eq, decide_eq_false_iff_not, beq_iff_eq, beq_eq_false_iff_ne] at * <;> unfold nextP <;> rw [hp, hs] <;> (repeat' split) <;> first | rfl | omega | (simp; omega) | (exfalso; omega)
  · have hp : plainE e = e := by simp [plainE, h10]
    have hs : side e = 3 := by simp [side, h10]
    rw [decide_eq_false h10]
    refine br_intro (fun h => by simp at h) (fun _ => ?_)
    (repeat' (refine br_intro (fun h => ?_) (fun h => ?_))) <;> refine fin _ _ ?_ <;> simp only [decide_eq_true_eq, decide_eq_false_iff_not, beq_iff_eq, beq_eq_false_iff_ne] at * <;> unfold nextP <;> rw [hp, hs] <;> (repeat' split) <;> first | rfl | omega | (simp; omega) | (exfalso; omega)

theorem runs : Flat Try.prog 3 [] (.bool true) := fun w => run_closed mixed (by kernel_rfl) (args := []) rfl rfl (show ret? (Ev.run Try.prog 1000000 3 [] ⟨.leaf, 0⟩) = some (.bool true) by kernel_rfl) w

theorem calls1 : CallsOk E1.P (oOf E1) := by
  refine calls_flat fun f a h p v h' e hp => ?_
  change T1 f a h = _ at e
  unfold T1 at e
  split at e <;> simp only [Option.some.injEq, Prod.mk.injEq, reduceCtorEq] at e <;> obtain ⟨rfl, rfl, rfl⟩ := e
  · exact ⟨rfl, rfl, rfl, runs⟩
  · exact ⟨rfl, rfl, rfl, next_ok _ _ hp⟩

theorem lok1 : LOk E1 := lok_none fun _ _ => rfl

/-- What two ends see. -/
def Mir (a b : Int) : Prop := (a = 0 ∧ b = 0) ∨ (a = 1 ∧ b = 1) ∨ (a = 2 ∧ b = 3) ∨ (a = 3 ∧ b = 2) ∨ (a = 4 ∧ b = 4)
theorem mir_next {a b e f : Int} (h : Mir a b) (he : (1 ≤ e ∧ e ≤ 5 ∧ f = e + 10) ∨ (11 ≤ e ∧ e ≤ 15 ∧ f = e - 10)) : nextOk a e = nextOk b f ∧ Mir (nextS a e) (nextS b f) := by
  have hc : ∀ x y : Int, x ∈ [(0 : Int), 1, 2, 3, 4] → y ∈ [(1 : Int), 2, 3, 4, 5, 11, 12, 13, 14, 15] → ∀ z w : Int, (z, w) ∈ [((0 : Int), (0 : Int)), (1, 1), (2, 3), (3, 2), (4, 4)] → z = x →
      nextOk x y = nextOk w (if y ≤ 5 then y + 10 else y - 10) ∧ (nextS x y, nextS w (if y ≤ 5 then y + 10 else y - 10)) ∈ [((0 : Int), (0 : Int)), (1, 1), (2, 3), (3, 2), (4, 4)] := by
    intro x y hx hy z w hz hzx
    have all : ([(0 : Int), 1, 2, 3, 4].all fun x => [(1 : Int), 2, 3, 4, 5, 11, 12, 13, 14, 15].all fun y => [((0 : Int), (0 : Int)), (1, 1), (2, 3), (3, 2), (4, 4)].all fun p =>
        !(decide (p.1 = x)) || (decide (nextOk x y = nextOk p.2 (if y ≤ 5 then y + 10 else y - 10)) && decide ((nextS x y, nextS p.2 (if y ≤ 5 then y + 10 else y - 10)) ∈ [((0 : Int), (0 : Int)), (1, 1), (2, 3), (3, 2), (4, 4)]))) = true := by kernel_rfl
    have h1 := (List.all_eq_true.1 ((List.all_eq_true.1 ((List.all_eq_true.1 all) x hx)) y hy)) (z, w) hz
    simp only [hzx, decide_true, Bool.not_true, Bool.false_or, Bool.and_eq_true, decide_eq_true_eq] at h1
    exact h1
  have hf : f = if e ≤ 5 then e + 10 else e - 10 := by
    rcases he with h | h
    · rw [if_pos (by omega)]; omega
    · rw [if_neg (by omega)]; omega
  have hm : (a, b) ∈ [((0 : Int), (0 : Int)), (1, 1), (2, 3), (3, 2), (4, 4)] := by
    unfold Mir at h
    simp only [List.mem_cons, Prod.mk.injEq, List.not_mem_nil, or_false]
    exact h
  have ha : a ∈ [(0 : Int), 1, 2, 3, 4] := by
    unfold Mir at h
    simp only [List.mem_cons, List.not_mem_nil, or_false]; omega
  have hy : e ∈ [(1 : Int), 2, 3, 4, 5, 11, 12, 13, 14, 15] := by
    simp only [List.mem_cons, List.not_mem_nil, or_false]; omega
  have := hc a e ha hy a b hm rfl
  rw [← hf] at this
  refine ⟨this.1, ?_⟩
  have h2 := this.2
  simp only [List.mem_cons, Prod.mk.injEq, List.not_mem_nil, or_false] at h2
  exact h2
theorem mir_same {a b : Int} (h : Mir a b) : ((a == (2 : Int)) == (b == (3 : Int))) = true ∧ ((a == (3 : Int)) == (b == (2 : Int))) = true ∧ ((a == (1 : Int)) == (b == (1 : Int))) = true ∧ ((a == (4 : Int)) == (b == (4 : Int))) = true := by
  rcases h with ⟨rfl, rfl⟩ | ⟨rfl, rfl⟩ | ⟨rfl, rfl⟩ | ⟨rfl, rfl⟩ | ⟨rfl, rfl⟩ <;> decide

theorem mir_body (xs : List Int) (hx : ∀ x ∈ xs, I64 x) (hlen : xs.length ≤ maxLen) (k a b : Int) (h0 : 0 ≤ k) (hm : Mir a b) (N : Option Value → Option Value → Option Value → Option Value → Nat → List Deferred → Option FrameMode → Hp → Prop) (X : Nat → Nat → List Deferred → Option FrameMode → Hp → Prop)
    (hX : X 0 90 [] none (hpM xs)) (hN : ∀ a' b', Mir a' b' → k < xs.length → N (some (.slice (some ⟨0, 0, none⟩) xs.length 1)) (some (.int .i64 a')) (some (.int .i64 b')) (some (.int .i64 (k + 1))) 90 [] none (hpM xs)) :
    sev E1 60 6 (0 :: pth) false (codeOf Try.prog 6 (0 :: pth)) ⟨ovM xs.length k a b, 90, []⟩ none (hpM xs) (fun x => match x with | (.normal, fr, u, h) => N (fr.tm.find 0) (fr.tm.find 3) (fr.tm.find 4) (fr.tm.find 5) fr.nt fr.df u h | (.exit j, fr, u, h) => X j fr.nt fr.df u h | _ => False) := by
  refine (mir_vc xs k a b N X).mpr ?_
  have hX' : X 0 90 [] none (Hp.mk (Tr.node Tr.leaf (some (Row.mk (List.map (Value.int IntKind.i64) xs) true Ob.cells)) Tr.leaf) 1) := hX
  refine br_intro (fun h1 => br_intro (fun _ => ?_) (fun _ => hX')) (fun _ => hX')
  simp only [decide_eq_true_eq] at h1
  have h1 : k < xs.length := h1
  unfold maxLen at hlen
  have wk : IntKind.wrap .i64 (k + 1) = k + 1 := wr64_id ⟨by omega, by omega⟩
  have hi : (0 : Nat) + Int.toNat k * (1 : Nat) < xs.length := by omega
  obtain ⟨c1, c2⟩ := cell_map (k := .i64) hi
  have he : I64 (cellI (List.map (Value.int .i64) xs) ((0 : Nat) + Int.toNat k * (1 : Nat))) := by
    rw [c2]
    have : xs.getD ((0 : Nat) + Int.toNat k * (1 : Nat)) 0 = xs[(0 : Nat) + Int.toNat k * (1 : Nat)] := by simp only [List.getD, List.getElem?_eq_getElem hi, Option.getD_some]
    rw [this]; exact hx _ (List.getElem_mem hi)
  have go : ∀ a' b', Mir a' b' → N (some (.slice (some ⟨0, 0, none⟩) xs.length 1)) (some (.int .i64 a')) (some (.int .i64 b')) (some (.int .i64 (IntKind.wrap .i64 (k + 1)))) 90 [] none (Hp.mk (Tr.node Tr.leaf (some (Row.mk (List.map (Value.int IntKind.i64) xs) true Ob.cells)) Tr.leaf) 1) := by
    intro a' b' h; rw [wk]; exact hN a' b' h h1
  refine br_intro (fun _ => ⟨c1, ?_⟩) (fun h => by simp at h; omega)
  generalize cellI (List.map (Value.int .i64) xs) ((0 : Nat) + Int.toNat k * (1 : Nat)) = e at *
  unfold I64 at he
  have rest : ∀ f : Int, ((1 ≤ e ∧ e ≤ 5 ∧ f = e + 10) ∨ (11 ≤ e ∧ e ≤ 15 ∧ f = e - 10)) →
      (br (!nextOk a e == nextOk b f) False (br (!(nextS a e == (2 : Int)) == (nextS b f == (3 : Int))) False (br (!(nextS a e == (3 : Int)) == (nextS b f == (2 : Int))) False
        (br (!(nextS a e == (1 : Int)) == (nextS b f == (1 : Int))) False (br (!(nextS a e == (4 : Int)) == (nextS b f == (4 : Int))) False
          (N (some (.slice (some ⟨0, 0, none⟩) xs.length 1)) (some (.int .i64 (nextS a e))) (some (.int .i64 (nextS b f))) (some (.int .i64 (IntKind.wrap .i64 (k + 1)))) 90 [] none (Hp.mk (Tr.node Tr.leaf (some (Row.mk (List.map (Value.int IntKind.i64) xs) true Ob.cells)) Tr.leaf) 1))))))) := by
    intro f hf
    obtain ⟨r1, r2⟩ := mir_next hm hf
    obtain ⟨q1, q2, q3, q4⟩ := mir_same r2
    have n : ∀ x y : Bool, (x == y) = true → (!x == y) = false := fun x y h => by cases x <;> cases y <;> simp_all
    rw [n _ _ (by rw [r1]; simp), n _ _ q1, n _ _ q2, n _ _ q3, n _ _ q4]
    exact go _ _ r2
  have no : ∀ b : Bool, b = true → b = false → False := fun b h1 h2 => by rw [h1] at h2; simp at h2
  have wm : e > 10 → IntKind.wrap .i64 (e - 10) = e - 10 := fun h => wr64_id ⟨by omega, by omega⟩
  have wp : e ≤ 15 → IntKind.wrap .i64 (e + 10) = e + 10 := fun h => wr64_id ⟨by omega, by omega⟩
  (repeat' (first | exact go _ _ hm | refine br_intro (fun h => ?_) (fun h => ?_))) <;> simp only [decide_eq_true_eq, decide_eq_false_iff_not] at * <;> first
    | (exfalso; omega)
    | (rw [wm (by omega)]; exact ⟨⟨by omega, by omega⟩, ⟨by omega, by omega⟩, rest _ (by omega)⟩)
    | (rw [wp (by omega)]; exact ⟨⟨by omega, by omega⟩, ⟨by omega, by omega⟩, rest _ (by omega)⟩)

theorem mir_loop (xs : List Int) (hx : ∀ x ∈ xs, I64 x) (hlen : xs.length ≤ maxLen) {fn : Func} {c0 body : Code} (hf : Try.prog.funcs[6]? = some fn) (hb : fn.body = some c0) (hbody : codeAt c0 (0 :: pth) = some body) {K : KO} (hK : K (.exit 0, ⟨.leaf, 90, []⟩, none, hpM xs)) :
    ∀ i : Int × Int × Int, (0 ≤ i.1 ∧ Mir i.2.1 i.2.2) → OkC E1 false (.loop body) ⟨ovM xs.length i.1 i.2.1 i.2.2, 90, []⟩ none (hpM xs) K := by
  refine loop_ok (E := E1) (ι := Int × Int × Int) (fun i => ovM xs.length i.1 i.2.1 i.2.2) (fun _ => hpM xs) (fun i => 0 ≤ i.1 ∧ Mir i.2.1 i.2.2) (fun i => ((xs.length : Int) - i.1).toNat) (fun i hi => ?_)
  refine OkC.weaken ?_ (okC_of_sev (E := E1) lok1 hf hb hbody (mir_body xs hx hlen i.1 i.2.1 i.2.2 hi.1 hi.2
    (fun s0 s3 s4 s5 nt df u h => ∃ a' b', Mir a' b' ∧ i.1 < xs.length ∧ s0 = some (.slice (some ⟨0, 0, none⟩) xs.length 1) ∧ s3 = some (.int .i64 a') ∧ s4 = some (.int .i64 b') ∧ s5 = some (.int .i64 (i.1 + 1)) ∧ nt = 90 ∧ df = [] ∧ u = none ∧ h = hpM xs)
    (fun j nt df u h => j = 0 ∧ nt = 90 ∧ df = [] ∧ u = none ∧ h = hpM xs) ⟨rfl, rfl, rfl, rfl, rfl⟩ (fun a' b' hm hk => ⟨a', b', hm, hk, rfl, rfl, rfl, rfl, rfl, rfl, rfl, rfl⟩)))
  intro e tm nt df u h hc
  cases e with
  | normal =>
    obtain ⟨a', b', hm, hk, e0, e3, e4, e5, rfl, rfl, rfl, rfl⟩ := hc
    refine ⟨tm, Sub.refl _, (i.1 + 1, a', b'), ⟨by have := hi.1; simp only; omega, hm⟩, by simp only; omega, ?_, rfl, rfl, rfl, rfl⟩
    refine sub_mkOv _ ?_
    intro p hp
    simp only [List.mem_cons, List.not_mem_nil, or_false] at hp
    rcases hp with rfl | rfl | rfl | rfl
    · exact ⟨(by decide : (0 : Nat) < Tr.top), e0⟩
    · exact ⟨(by decide : (3 : Nat) < Tr.top), e3⟩
    · exact ⟨(by decide : (4 : Nat) < Tr.top), e4⟩
    · exact ⟨(by decide : (5 : Nat) < Tr.top), e5⟩
  | exit j => obtain ⟨rfl, rfl, rfl, rfl, rfl⟩ := hc; exact ⟨.leaf, sub_leaf _, hK⟩
  | _ => exact hc.elim

theorem lok2 (xs : List Int) (hx : ∀ x ∈ xs, I64 x) (hlen : xs.length ≤ maxLen) : LOk (E2 xs) := by
  intro f p spec fn c0 c hl hf hb hc fr u h K hs
  cases hq : (Nat.beq f 6 && decide (p = pth)) with
  | false => simp only [hq, cond_false] at hl; simp at hl
  | true =>
    simp only [hq, cond_true, Option.some.injEq] at hl
    subst hl
    simp only [Bool.and_eq_true, decide_eq_true_eq] at hq
    obtain ⟨h1, rfl⟩ := hq
    have h1 := Nat.eq_of_beq_eq_true h1
    subst h1
    obtain ⟨body, rfl, hbody⟩ := loop_of (P := Try.prog) (f := 6) (p := pth) (by kernel_rfl) hf hb hc
    obtain ⟨e0, e3, e4, e5, e6, e7, rfl, rfl, hK⟩ := hs
    obtain ⟨tm, nt, df⟩ := fr
    simp only at e0 e3 e4 e5 e6 e7
    subst e6; subst e7
    refine OkC.more (E := E1) (ov := ovM xs.length 0 0 0) ?_ (mir_loop xs hx hlen hf hb hbody hK (0, 0, 0) ⟨by omega, .inl ⟨rfl, rfl⟩⟩)
    refine sub_mkOv _ ?_
    intro p hp
    simp only [List.mem_cons, List.not_mem_nil, or_false] at hp
    rcases hp with rfl | rfl | rfl | rfl
    · exact ⟨(by decide : (0 : Nat) < Tr.top), e0⟩
    · exact ⟨(by decide : (3 : Nat) < Tr.top), e3⟩
    · exact ⟨(by decide : (4 : Nat) < Tr.top), e4⟩
    · exact ⟨(by decide : (5 : Nat) < Tr.top), e5⟩

theorem calls2 (xs : List Int) : CallsOk (E2 xs).P (oOf (E2 xs)) := calls1

theorem mirrors_nil : Flat Try.prog 6 [.slice none 0 0] (.bool true) :=
  flat_vc (E := E1) mixed calls1 lok1 (by kernel_rfl) rfl rfl nil_vc ⟨trivial, rfl⟩
theorem mirrors (xs : List Int) (hx : ∀ x ∈ xs, I64 x) (hlen : xs.length ≤ maxLen) : RowsOk Try.prog 6 [.slice (some ⟨0, 0, none⟩) xs.length 1] [xs.map (Value.int .i64)] (.bool true) :=
  rowsOk_of (E := E2 xs) mixed (calls2 xs) (lok2 xs hx hlen) (by kernel_rfl) (by simp) rfl (law_vc xs) ⟨rfl, rfl, rfl, rfl, rfl, rfl, rfl, rfl, trivial, rfl⟩
end Go.Proofs.Ytcljhkbjpajfgaa.m
