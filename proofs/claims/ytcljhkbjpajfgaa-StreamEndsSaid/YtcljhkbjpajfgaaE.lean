/- The law on the ends of streams. No condition. -/
import Derived.Test.YtcljhkbjpajfgaaSy3
import Derived.Test.YtcljhkbjpajfgaaRows
namespace Go.Proofs.Ytcljhkbjpajfgaa.e
open Go Go.Ev Go.Sy Go.RowKit

def side (e : Int) : Int := bif decide (e > 10) then 2 else 3
def plainE (e : Int) : Int := bif decide (e > 10) then e - 10 else e
def nextP (s e : Int) : Int × Bool :=
  if plainE e < 1 ∨ plainE e > 5 then (s, false)
  else if s = 0 then (if plainE e = 2 then (1, true) else if plainE e = 1 then (side e, true) else (0, false))
  else if s = 1 then (if plainE e = 5 then (4, true) else if plainE e = 1 ∨ plainE e = 3 then (side e, true) else (1, true))
  else if s = 2 ∨ s = 3 then (if plainE e = 5 then (4, true) else if s = side e then (s, false) else if plainE e = 1 ∨ plainE e = 3 then (4, true) else (s, true))
  else (s, false)
def nextS (s e : Int) : Int := (nextP s e).1
def nextOk (s e : Int) : Bool := (nextP s e).2
def T1 (f : FuncId) (args : List Value) (h : Hp) : Option (Prop × Value × Hp) :=
  match f, args with
  | 3, [] => some (True, .bool true, h)
  | 12, [.int .i64 s, .int .i64 e] => some (I64 e, .tuple #[.int .i64 (nextS s e), .bool (nextOk s e)], h)
  | _, _ => none
noncomputable abbrev E0 : Env := bare Try.prog
noncomputable abbrev E1 : Env := { P := Try.prog, T := T1, L := fun _ _ => none, sy := fun r => Nat.beq r 0 }
def pth : List Nat := [0, 1, 0, 1, 1, 1, 1]
def ovM (n : Nat) (k s : Int) (r : Bool) : Tr Value := mkOv [(0, .slice (some ⟨0, 0, none⟩) n 1), (3, .int .i64 s), (4, .pointer (some ⟨1, 0, none⟩)), (5, .bool r), (6, .int .i64 k)]
def hpM (xs : List Int) (e0 e1 : Bool) : Hp := ⟨(ofR [xs.map (Value.int .i64)] 0 .leaf).put 1 (some ⟨[.bool e0, .bool e1], false, .cells⟩), 2⟩
def specM (xs : List Int) : Sy.Spec := fun fr u h K =>
  fr.tm.find 0 = some (.slice (some ⟨0, 0, none⟩) xs.length 1) ∧ fr.tm.find 3 = some (.int .i64 0) ∧ fr.tm.find 4 = some (.pointer (some ⟨1, 0, none⟩)) ∧ fr.tm.find 5 = some (.bool false) ∧ fr.tm.find 6 = some (.int .i64 0) ∧ fr.nt = 87 ∧ fr.df = [] ∧ u = none ∧ h = hpM xs false false ∧
    ∀ (s : Int) (r e0 e1 : Bool), ((s == 4) == (r || e0 && e1)) = true → K (.exit 0, ⟨mkOv [(3, .int .i64 s), (4, .pointer (some ⟨1, 0, none⟩)), (5, .bool r)], 87, []⟩, none, hpM xs e0 e1)
noncomputable abbrev E2 (xs : List Int) : Env := { P := Try.prog, T := T1, L := fun f p => bif Nat.beq f 5 && decide (p = pth) then some (specM xs) else none, sy := fun r => Nat.beq r 0 }
theorem mixed : Try.prog.follows .mixedOrders = true := by kernel_rfl
theorem next_vc (s e : Int) (v : Value) : scall E0 60 12 [.int .i64 s, .int .i64 e] ⟨.leaf, 0⟩ (fun r => r.1 = .ret v) =
  (br (decide (e > (10 : Int)))
   (br (decide (IntKind.wrap IntKind.i64 (e - (10 : Int)) < (1 : Int)))
    (End.ret (Value.tuple (Array.mk [Value.int IntKind.i64 s, Value.bool false])) = End.ret v)
    (br (decide (IntKind.wrap IntKind.i64 (e - (10 : Int)) > (5 : Int)))
     (End.ret (Value.tuple (Array.mk [Value.int IntKind.i64 s, Value.bool false])) = End.ret v)
     (br (s == (0 : Int))
      (br (IntKind.wrap IntKind.i64 (e - (10 : Int)) == (2 : Int))
       (End.ret (Value.tuple (Array.mk [Value.int IntKind.i64 (1 : Int), Value.bool true])) = End.ret v)
       (br (IntKind.wrap IntKind.i64 (e - (10 : Int)) == (1 : Int))
        (End.ret (Value.tuple (Array.mk [Value.int IntKind.i64 (2 : Int), Value.bool true])) = End.ret v)
        (End.ret (Value.tuple (Array.mk [Value.int IntKind.i64 (0 : Int), Value.bool false])) = End.ret v)))
      (br (s == (1 : Int))
       (br (IntKind.wrap IntKind.i64 (e - (10 : Int)) == (5 : Int))
        (End.ret (Value.tuple (Array.mk [Value.int IntKind.i64 (4 : Int), Value.bool true])) = End.ret v)
        (br (IntKind.wrap IntKind.i64 (e - (10 : Int)) == (1 : Int))
         (End.ret (Value.tuple (Array.mk [Value.int IntKind.i64 (2 : Int), Value.bool true])) = End.ret v)
         (br (IntKind.wrap IntKind.i64 (e - (10 : Int)) == (3 : Int))
          (End.ret (Value.tuple (Array.mk [Value.int IntKind.i64 (2 : Int), Value.bool true])) = End.ret v)
          (End.ret (Value.tuple (Array.mk [Value.int IntKind.i64 (1 : Int), Value.bool true])) = End.ret v))))
       (br (s == (2 : Int))
        (br (IntKind.wrap IntKind.i64 (e - (10 : Int)) == (5 : Int))
         (End.ret (Value.tuple (Array.mk [Value.int IntKind.i64 (4 : Int), Value.bool true])) = End.ret v)
         (br (s == (2 : Int))
          (End.ret (Value.tuple (Array.mk [Value.int IntKind.i64 s, Value.bool false])) = End.ret v)
          (br (IntKind.wrap IntKind.i64 (e - (10 : Int)) == (1 : Int))
           (End.ret (Value.tuple (Array.mk [Value.int IntKind.i64 (4 : Int), Value.bool true])) = End.ret v)
           (br (IntKind.wrap IntKind.i64 (e - (10 : Int)) == (3 : Int))
            (End.ret (Value.tuple (Array.mk [Value.int IntKind.i64 (4 : Int), Value.bool true])) = End.ret v)
            (End.ret (Value.tuple (Array.mk [Value.int IntKind.i64 s, Value.bool true])) = End.ret v)))))
        (br (s == (3 : Int))
         (br (IntKind.wrap IntKind.i64 (e - (10 : Int)) == (5 : Int))
          (End.ret (Value.tuple (Array.mk [Value.int IntKind.i64 (4 : Int), Value.bool true])) = End.ret v)
          (br (s == (2 : Int))
           (End.ret (Value.tuple (Array.mk [Value.int IntKind.i64 s, Value.bool false])) = End.ret v)
           (br (IntKind.wrap IntKind.i64 (e - (10 : Int)) == (1 : Int))
            (End.ret (Value.tuple (Array.mk [Value.int IntKind.i64 (4 : Int), Value.bool true])) = End.ret v)
            (br (IntKind.wrap IntKind.i64 (e - (10 : Int)) == (3 : Int))
             (End.ret (Value.tuple (Array.mk [Value.int IntKind.i64 (4 : Int), Value.bool true])) = End.ret v)
             (End.ret (Value.tuple (Array.mk [Value.int IntKind.i64 s, Value.bool true])) = End.ret v)))))
         (End.ret (Value.tuple (Array.mk [Value.int IntKind.i64 s, Value.bool false])) = End.ret v)))))))
   (br (decide (e < (1 : Int)))
    (End.ret (Value.tuple (Array.mk [Value.int IntKind.i64 s, Value.bool false])) = End.ret v)
    (br (decide (e > (5 : Int)))
     (End.ret (Value.tuple (Array.mk [Value.int IntKind.i64 s, Value.bool false])) = End.ret v)
     (br (s == (0 : Int))
      (br (e == (2 : Int))
       (End.ret (Value.tuple (Array.mk [Value.int IntKind.i64 (1 : Int), Value.bool true])) = End.ret v)
       (br (e == (1 : Int))
        (End.ret (Value.tuple (Array.mk [Value.int IntKind.i64 (3 : Int), Value.bool true])) = End.ret v)
        (End.ret (Value.tuple (Array.mk [Value.int IntKind.i64 (0 : Int), Value.bool false])) = End.ret v)))
      (br (s == (1 : Int))
       (br (e == (5 : Int))
        (End.ret (Value.tuple (Array.mk [Value.int IntKind.i64 (4 : Int), Value.bool true])) = End.ret v)
        (br (e == (1 : Int))
         (End.ret (Value.tuple (Array.mk [Value.int IntKind.i64 (3 : Int), Value.bool true])) = End.ret v)
         (br (e == (3 : Int))
          (End.ret (Value.tuple (Array.mk [Value.int IntKind.i64 (3 : Int), Value.bool true])) = End.ret v)
          (End.ret (Value.tuple (Array.mk [Value.int IntKind.i64 (1 : Int), Value.bool true])) = End.ret v))))
       (br (s == (2 : Int))
        (br (e == (5 : Int))
         (End.ret (Value.tuple (Array.mk [Value.int IntKind.i64 (4 : Int), Value.bool true])) = End.ret v)
         (br (s == (3 : Int))
          (End.ret (Value.tuple (Array.mk [Value.int IntKind.i64 s, Value.bool false])) = End.ret v)
          (br (e == (1 : Int))
           (End.ret (Value.tuple (Array.mk [Value.int IntKind.i64 (4 : Int), Value.bool true])) = End.ret v)
           (br (e == (3 : Int))
            (End.ret (Value.tuple (Array.mk [Value.int IntKind.i64 (4 : Int), Value.bool true])) = End.ret v)
            (End.ret (Value.tuple (Array.mk [Value.int IntKind.i64 s, Value.bool true])) = End.ret v)))))
        (br (s == (3 : Int))
         (br (e == (5 : Int))
          (End.ret (Value.tuple (Array.mk [Value.int IntKind.i64 (4 : Int), Value.bool true])) = End.ret v)
          (br (s == (3 : Int))
           (End.ret (Value.tuple (Array.mk [Value.int IntKind.i64 s, Value.bool false])) = End.ret v)
           (br (e == (1 : Int))
            (End.ret (Value.tuple (Array.mk [Value.int IntKind.i64 (4 : Int), Value.bool true])) = End.ret v)
            (br (e == (3 : Int))
             (End.ret (Value.tuple (Array.mk [Value.int IntKind.i64 (4 : Int), Value.bool true])) = End.ret v)
             (End.ret (Value.tuple (Array.mk [Value.int IntKind.i64 s, Value.bool true])) = End.ret v)))))
         (End.ret (Value.tuple (Array.mk [Value.int IntKind.i64 s, Value.bool false])) = End.ret v)))))))) := by kernel_rfl
theorem nil_vc  : scall E1 60 5 [.slice none 0 0] ⟨.leaf, 0⟩ (fun r => r.1 = .ret (.bool true)) =
  ((Eq (α := Option Value) (some (Value.bool false)) (some (Value.bool false))) ∧
  ((True) ∧
  (End.ret (Value.bool true) = End.ret (Value.bool true)))) := by kernel_rfl
theorem law_vc (xs : List Int) : scall (E2 xs) 60 5 [.slice (some ⟨0, 0, none⟩) xs.length 1] ⟨ofR [xs.map (Value.int .i64)] 0 .leaf, 1⟩ (fun r => r.1 = .ret (.bool true)) =
  ((Eq (α := Option Value) (some (Value.slice (some (Addr.mk (0 : Nat) (0 : Nat) none)) (List.length xs) (1 : Nat))) (some (Value.slice (some (Addr.mk (0 : Nat) (0 : Nat) none)) (List.length xs) (1 : Nat)))) ∧
  ((Eq (α := Option Value) (some (Value.int IntKind.i64 (0 : Int))) (some (Value.int IntKind.i64 (0 : Int)))) ∧
  ((Eq (α := Option Value) (some (Value.pointer (some (Addr.mk (1 : Nat) (0 : Nat) none)))) (some (Value.pointer (some (Addr.mk (1 : Nat) (0 : Nat) none))))) ∧
  ((Eq (α := Option Value) (some (Value.bool false)) (some (Value.bool false))) ∧
  ((Eq (α := Option Value) (some (Value.int IntKind.i64 (0 : Int))) (some (Value.int IntKind.i64 (0 : Int)))) ∧
  (((87 : Nat) = (87 : Nat)) ∧
  ((Eq (α := List Deferred) ([]) ([])) ∧
  ((Eq (α := Option FrameMode) (none) (none)) ∧
  ((Hp.mk (Tr.node (Tr.node Tr.leaf (some (Row.mk [Value.bool false, Value.bool false] false Ob.cells)) Tr.leaf) (some (Row.mk (List.map (Value.int IntKind.i64) xs) true Ob.cells)) Tr.leaf) (2 : Nat) = Hp.mk (Tr.node (Tr.node Tr.leaf (some (Row.mk [Value.bool false, Value.bool false] false Ob.cells)) Tr.leaf) (some (Row.mk (List.map (Value.int IntKind.i64) xs) true Ob.cells)) Tr.leaf) (2 : Nat)) ∧
  (∀ (s : Int), (∀ (r : Bool), (∀ (e0 : Bool), (∀ (e1 : Bool), ((((s == (4 : Int)) == (r || e0 && e1)) = true) →
  (br (r)
   (br ((s == (4 : Int)) == true)
    ((True) ∧
    (End.ret (Value.bool true) = End.ret (Value.bool true)))
    (End.ret (Value.bool false) = End.ret (Value.bool true)))
   (br (e0)
    (br ((s == (4 : Int)) == e1)
     ((True) ∧
     (End.ret (Value.bool true) = End.ret (Value.bool true)))
     (End.ret (Value.bool false) = End.ret (Value.bool true)))
    (br ((s == (4 : Int)) == false)
     ((True) ∧
     (End.ret (Value.bool true) = End.ret (Value.bool true)))
     (End.ret (Value.bool false) = End.ret (Value.bool true))))))))))))))))))) := by kernel_rfl
theorem end_vc (xs : List Int) (k s : Int) (r e0 e1 : Bool) (N : Option Value → Option Value → Option Value → Option Value → Option Value → Nat → List Deferred → Option FrameMode → Hp → Prop) (X : Nat → Option Value → Option Value → Option Value → Nat → List Deferred → Option FrameMode → Hp → Prop) : sev E1 60 5 (0 :: pth) false (codeOf Try.prog 5 (0 :: pth)) ⟨ovM xs.length k s r, 87, []⟩ none (hpM xs e0 e1) (fun x => match x with | (.normal, fr, u, h) => N (fr.tm.find 0) (fr.tm.find 3) (fr.tm.find 4) (fr.tm.find 5) (fr.tm.find 6) fr.nt fr.df u h | (.exit j, fr, u, h) => X j (fr.tm.find 3) (fr.tm.find 4) (fr.tm.find 5) fr.nt fr.df u h | _ => False) =
  (br (decide (k < Int.ofNat (List.length xs)))
   (br (decide (k < (100 : Int)))
    (br (decide ((0 : Int) ≤ k ∧ k < ↑(List.length xs)))
     ((Eq (α := Option Value) ((List.map (Value.int IntKind.i64) xs)[(0 : Nat) + Int.toNat k * (1 : Nat)]?) (some (Value.int IntKind.i64 (cellI (List.map (Value.int IntKind.i64) xs) ((0 : Nat) + Int.toNat k * (1 : Nat)))))) ∧
     ((I64 (cellI (List.map (Value.int IntKind.i64) xs) ((0 : Nat) + Int.toNat k * (1 : Nat)))) ∧
     (br (!nextOk s (cellI (List.map (Value.int IntKind.i64) xs) ((0 : Nat) + Int.toNat k * (1 : Nat))))
      (br (nextS s (cellI (List.map (Value.int IntKind.i64) xs) ((0 : Nat) + Int.toNat k * (1 : Nat))) != s)
       False
       (N (some (Value.slice (some (Addr.mk (0 : Nat) (0 : Nat) none)) (List.length xs) (1 : Nat))) (some (Value.int IntKind.i64 s)) (some (Value.pointer (some (Addr.mk (1 : Nat) (0 : Nat) none)))) (some (Value.bool r)) (some (Value.int IntKind.i64 (IntKind.wrap IntKind.i64 (k + (1 : Int))))) (87 : Nat) [] none (Hp.mk (Tr.node (Tr.node Tr.leaf (some (Row.mk [Value.bool e0, Value.bool e1] false Ob.cells)) Tr.leaf) (some (Row.mk (List.map (Value.int IntKind.i64) xs) true Ob.cells)) Tr.leaf) (2 : Nat))))
      (br (decide (cellI (List.map (Value.int IntKind.i64) xs) ((0 : Nat) + Int.toNat k * (1 : Nat)) > (10 : Int)))
       (br (r)
        False
        (br (e1)
         (br (IntKind.wrap IntKind.i64 (cellI (List.map (Value.int IntKind.i64) xs) ((0 : Nat) + Int.toNat k * (1 : Nat)) - (10 : Int)) != (5 : Int))
          False
          (br (e0)
           (br (e1)
            False
            (br (IntKind.wrap IntKind.i64 (cellI (List.map (Value.int IntKind.i64) xs) ((0 : Nat) + Int.toNat k * (1 : Nat)) - (10 : Int)) == (1 : Int))
             (br (r)
              (N (some (Value.slice (some (Addr.mk (0 : Nat) (0 : Nat) none)) (List.length xs) (1 : Nat))) (some (Value.int IntKind.i64 (nextS s (cellI (List.map (Value.int IntKind.i64) xs) ((0 : Nat) + Int.toNat k * (1 : Nat)))))) (some (Value.pointer (some (Addr.mk (1 : Nat) (0 : Nat) none)))) (some (Value.bool true)) (some (Value.int IntKind.i64 (IntKind.wrap IntKind.i64 (k + (1 : Int))))) (87 : Nat) [] none (Hp.mk (Tr.node (Tr.node Tr.leaf (some (Row.mk [Value.bool e0, Value.bool true] false Ob.cells)) Tr.leaf) (some (Row.mk (List.map (Value.int IntKind.i64) xs) true Ob.cells)) Tr.leaf) (2 : Nat)))
              (N (some (Value.slice (some (Addr.mk (0 : Nat) (0 : Nat) none)) (List.length xs) (1 : Nat))) (some (Value.int IntKind.i64 (nextS s (cellI (List.map (Value.int IntKind.i64) xs) ((0 : Nat) + Int.toNat k * (1 : Nat)))))) (some (Value.pointer (some (Addr.mk (1 : Nat) (0 : Nat) none)))) (some (Value.bool (IntKind.wrap IntKind.i64 (cellI (List.map (Value.int IntKind.i64) xs) ((0 : Nat) + Int.toNat k * (1 : Nat)) - (10 : Int)) == (5 : Int)))) (some (Value.int IntKind.i64 (IntKind.wrap IntKind.i64 (k + (1 : Int))))) (87 : Nat) [] none (Hp.mk (Tr.node (Tr.node Tr.leaf (some (Row.mk [Value.bool e0, Value.bool true] false Ob.cells)) Tr.leaf) (some (Row.mk (List.map (Value.int IntKind.i64) xs) true Ob.cells)) Tr.leaf) (2 : Nat))))
             (br (IntKind.wrap IntKind.i64 (cellI (List.map (Value.int IntKind.i64) xs) ((0 : Nat) + Int.toNat k * (1 : Nat)) - (10 : Int)) == (3 : Int))
              (br (r)
               (N (some (Value.slice (some (Addr.mk (0 : Nat) (0 : Nat) none)) (List.length xs) (1 : Nat))) (some (Value.int IntKind.i64 (nextS s (cellI (List.map (Value.int IntKind.i64) xs) ((0 : Nat) + Int.toNat k * (1 : Nat)))))) (some (Value.pointer (some (Addr.mk (1 : Nat) (0 : Nat) none)))) (some (Value.bool true)) (some (Value.int IntKind.i64 (IntKind.wrap IntKind.i64 (k + (1 : Int))))) (87 : Nat) [] none (Hp.mk (Tr.node (Tr.node Tr.leaf (some (Row.mk [Value.bool e0, Value.bool true] false Ob.cells)) Tr.leaf) (some (Row.mk (List.map (Value.int IntKind.i64) xs) true Ob.cells)) Tr.leaf) (2 : Nat)))
               (N (some (Value.slice (some (Addr.mk (0 : Nat) (0 : Nat) none)) (List.length xs) (1 : Nat))) (some (Value.int IntKind.i64 (nextS s (cellI (List.map (Value.int IntKind.i64) xs) ((0 : Nat) + Int.toNat k * (1 : Nat)))))) (some (Value.pointer (some (Addr.mk (1 : Nat) (0 : Nat) none)))) (some (Value.bool (IntKind.wrap IntKind.i64 (cellI (List.map (Value.int IntKind.i64) xs) ((0 : Nat) + Int.toNat k * (1 : Nat)) - (10 : Int)) == (5 : Int)))) (some (Value.int IntKind.i64 (IntKind.wrap IntKind.i64 (k + (1 : Int))))) (87 : Nat) [] none (Hp.mk (Tr.node (Tr.node Tr.leaf (some (Row.mk [Value.bool e0, Value.bool true] false Ob.cells)) Tr.leaf) (some (Row.mk (List.map (Value.int IntKind.i64) xs) true Ob.cells)) Tr.leaf) (2 : Nat))))
              (br (r)
               (N (some (Value.slice (some (Addr.mk (0 : Nat) (0 : Nat) none)) (List.length xs) (1 : Nat))) (some (Value.int IntKind.i64 (nextS s (cellI (List.map (Value.int IntKind.i64) xs) ((0 : Nat) + Int.toNat k * (1 : Nat)))))) (some (Value.pointer (some (Addr.mk (1 : Nat) (0 : Nat) none)))) (some (Value.bool true)) (some (Value.int IntKind.i64 (IntKind.wrap IntKind.i64 (k + (1 : Int))))) (87 : Nat) [] none (Hp.mk (Tr.node (Tr.node Tr.leaf (some (Row.mk [Value.bool e0, Value.bool e1] false Ob.cells)) Tr.leaf) (some (Row.mk (List.map (Value.int IntKind.i64) xs) true Ob.cells)) Tr.leaf) (2 : Nat)))
               (N (some (Value.slice (some (Addr.mk (0 : Nat) (0 : Nat) none)) (List.length xs) (1 : Nat))) (some (Value.int IntKind.i64 (nextS s (cellI (List.map (Value.int IntKind.i64) xs) ((0 : Nat) + Int.toNat k * (1 : Nat)))))) (some (Value.pointer (some (Addr.mk (1 : Nat) (0 : Nat) none)))) (some (Value.bool (IntKind.wrap IntKind.i64 (cellI (List.map (Value.int IntKind.i64) xs) ((0 : Nat) + Int.toNat k * (1 : Nat)) - (10 : Int)) == (5 : Int)))) (some (Value.int IntKind.i64 (IntKind.wrap IntKind.i64 (k + (1 : Int))))) (87 : Nat) [] none (Hp.mk (Tr.node (Tr.node Tr.leaf (some (Row.mk [Value.bool e0, Value.bool e1] false Ob.cells)) Tr.leaf) (some (Row.mk (List.map (Value.int IntKind.i64) xs) true Ob.cells)) Tr.leaf) (2 : Nat)))))))
           (br (IntKind.wrap IntKind.i64 (cellI (List.map (Value.int IntKind.i64) xs) ((0 : Nat) + Int.toNat k * (1 : Nat)) - (10 : Int)) == (1 : Int))
            (br (r)
             (N (some (Value.slice (some (Addr.mk (0 : Nat) (0 : Nat) none)) (List.length xs) (1 : Nat))) (some (Value.int IntKind.i64 (nextS s (cellI (List.map (Value.int IntKind.i64) xs) ((0 : Nat) + Int.toNat k * (1 : Nat)))))) (some (Value.pointer (some (Addr.mk (1 : Nat) (0 : Nat) none)))) (some (Value.bool true)) (some (Value.int IntKind.i64 (IntKind.wrap IntKind.i64 (k + (1 : Int))))) (87 : Nat) [] none (Hp.mk (Tr.node (Tr.node Tr.leaf (some (Row.mk [Value.bool e0, Value.bool true] false Ob.cells)) Tr.leaf) (some (Row.mk (List.map (Value.int IntKind.i64) xs) true Ob.cells)) Tr.leaf) (2 : Nat)))
             (N (some (Value.slice (some (Addr.mk (0 : Nat) (0 : Nat) none)) (List.length xs) (1 : Nat))) (some (Value.int IntKind.i64 (nextS s (cellI (List.map (Value.int IntKind.i64) xs) ((0 : Nat) + Int.toNat k * (1 : Nat)))))) (some (Value.pointer (some (Addr.mk (1 : Nat) (0 : Nat) none)))) (some (Value.bool (IntKind.wrap IntKind.i64 (cellI (List.map (Value.int IntKind.i64) xs) ((0 : Nat) + Int.toNat k * (1 : Nat)) - (10 : Int)) == (5 : Int)))) (some (Value.int IntKind.i64 (IntKind.wrap IntKind.i64 (k + (1 : Int))))) (87 : Nat) [] none (Hp.mk (Tr.node (Tr.node Tr.leaf (some (Row.mk [Value.bool e0, Value.bool true] false Ob.cells)) Tr.leaf) (some (Row.mk (List.map (Value.int IntKind.i64) xs) true Ob.cells)) Tr.leaf) (2 : Nat))))
            (br (IntKind.wrap IntKind.i64 (cellI (List.map (Value.int IntKind.i64) xs) ((0 : Nat) + Int.toNat k * (1 : Nat)) - (10 : Int)) == (3 : Int))
             (br (r)
              (N (some (Value.slice (some (Addr.mk (0 : Nat) (0 : Nat) none)) (List.length xs) (1 : Nat))) (some (Value.int IntKind.i64 (nextS s (cellI (List.map (Value.int IntKind.i64) xs) ((0 : Nat) + Int.toNat k * (1 : Nat)))))) (some (Value.pointer (some (Addr.mk (1 : Nat) (0 : Nat) none)))) (some (Value.bool true)) (some (Value.int IntKind.i64 (IntKind.wrap IntKind.i64 (k + (1 : Int))))) (87 : Nat) [] none (Hp.mk (Tr.node (Tr.node Tr.leaf (some (Row.mk [Value.bool e0, Value.bool true] false Ob.cells)) Tr.leaf) (some (Row.mk (List.map (Value.int IntKind.i64) xs) true Ob.cells)) Tr.leaf) (2 : Nat)))
              (N (some (Value.slice (some (Addr.mk (0 : Nat) (0 : Nat) none)) (List.length xs) (1 : Nat))) (some (Value.int IntKind.i64 (nextS s (cellI (List.map (Value.int IntKind.i64) xs) ((0 : Nat) + Int.toNat k * (1 : Nat)))))) (some (Value.pointer (some (Addr.mk (1 : Nat) (0 : Nat) none)))) (some (Value.bool (IntKind.wrap IntKind.i64 (cellI (List.map (Value.int IntKind.i64) xs) ((0 : Nat) + Int.toNat k * (1 : Nat)) - (10 : Int)) == (5 : Int)))) (some (Value.int IntKind.i64 (IntKind.wrap IntKind.i64 (k + (1 : Int))))) (87 : Nat) [] none (Hp.mk (Tr.node (Tr.node Tr.leaf (some (Row.mk [Value.bool e0, Value.bool true] false Ob.cells)) Tr.leaf) (some (Row.mk (List.map (Value.int IntKind.i64) xs) true Ob.cells)) Tr.leaf) (2 : Nat))))
             (br (r)
              (N (some (Value.slice (some (Addr.mk (0 : Nat) (0 : Nat) none)) (List.length xs) (1 : Nat))) (some (Value.int IntKind.i64 (nextS s (cellI (List.map (Value.int IntKind.i64) xs) ((0 : Nat) + Int.toNat k * (1 : Nat)))))) (some (Value.pointer (some (Addr.mk (1 : Nat) (0 : Nat) none)))) (some (Value.bool true)) (some (Value.int IntKind.i64 (IntKind.wrap IntKind.i64 (k + (1 : Int))))) (87 : Nat) [] none (Hp.mk (Tr.node (Tr.node Tr.leaf (some (Row.mk [Value.bool e0, Value.bool e1] false Ob.cells)) Tr.leaf) (some (Row.mk (List.map (Value.int IntKind.i64) xs) true Ob.cells)) Tr.leaf) (2 : Nat)))
              (N (some (Value.slice (some (Addr.mk (0 : Nat) (0 : Nat) none)) (List.length xs) (1 : Nat))) (some (Value.int IntKind.i64 (nextS s (cellI (List.map (Value.int IntKind.i64) xs) ((0 : Nat) + Int.toNat k * (1 : Nat)))))) (some (Value.pointer (some (Addr.mk (1 : Nat) (0 : Nat) none)))) (some (Value.bool (IntKind.wrap IntKind.i64 (cellI (List.map (Value.int IntKind.i64) xs) ((0 : Nat) + Int.toNat k * (1 : Nat)) - (10 : Int)) == (5 : Int)))) (some (Value.int IntKind.i64 (IntKind.wrap IntKind.i64 (k + (1 : Int))))) (87 : Nat) [] none (Hp.mk (Tr.node (Tr.node Tr.leaf (some (Row.mk [Value.bool e0, Value.bool e1] false Ob.cells)) Tr.leaf) (some (Row.mk (List.map (Value.int IntKind.i64) xs) true Ob.cells)) Tr.leaf) (2 : Nat))))))))
         (br (e0)
          (br (e1)
           False
           (br (IntKind.wrap IntKind.i64 (cellI (List.map (Value.int IntKind.i64) xs) ((0 : Nat) + Int.toNat k * (1 : Nat)) - (10 : Int)) == (1 : Int))
            (br (r)
             (N (some (Value.slice (some (Addr.mk (0 : Nat) (0 : Nat) none)) (List.length xs) (1 : Nat))) (some (Value.int IntKind.i64 (nextS s (cellI (List.map (Value.int IntKind.i64) xs) ((0 : Nat) + Int.toNat k * (1 : Nat)))))) (some (Value.pointer (some (Addr.mk (1 : Nat) (0 : Nat) none)))) (some (Value.bool true)) (some (Value.int IntKind.i64 (IntKind.wrap IntKind.i64 (k + (1 : Int))))) (87 : Nat) [] none (Hp.mk (Tr.node (Tr.node Tr.leaf (some (Row.mk [Value.bool e0, Value.bool true] false Ob.cells)) Tr.leaf) (some (Row.mk (List.map (Value.int IntKind.i64) xs) true Ob.cells)) Tr.leaf) (2 : Nat)))
             (N (some (Value.slice (some (Addr.mk (0 : Nat) (0 : Nat) none)) (List.length xs) (1 : Nat))) (some (Value.int IntKind.i64 (nextS s (cellI (List.map (Value.int IntKind.i64) xs) ((0 : Nat) + Int.toNat k * (1 : Nat)))))) (some (Value.pointer (some (Addr.mk (1 : Nat) (0 : Nat) none)))) (some (Value.bool (IntKind.wrap IntKind.i64 (cellI (List.map (Value.int IntKind.i64) xs) ((0 : Nat) + Int.toNat k * (1 : Nat)) - (10 : Int)) == (5 : Int)))) (some (Value.int IntKind.i64 (IntKind.wrap IntKind.i64 (k + (1 : Int))))) (87 : Nat) [] none (Hp.mk (Tr.node (Tr.node Tr.leaf (some (Row.mk [Value.bool e0, Value.bool true] false Ob.cells)) Tr.leaf) (some (Row.mk (List.map (Value.int IntKind.i64) xs) true Ob.cells)) Tr.leaf) (2 : Nat))))
            (br (IntKind.wrap IntKind.i64 (cellI (List.map (Value.int IntKind.i64) xs) ((0 : Nat) + Int.toNat k * (1 : Nat)) - (10 : Int)) == (3 : Int))
             (br (r)
              (N (some (Value.slice (some (Addr.mk (0 : Nat) (0 : Nat) none)) (List.length xs) (1 : Nat))) (some (Value.int IntKind.i64 (nextS s (cellI (List.map (Value.int IntKind.i64) xs) ((0 : Nat) + Int.toNat k * (1 : Nat)))))) (some (Value.pointer (some (Addr.mk (1 : Nat) (0 : Nat) none)))) (some (Value.bool true)) (some (Value.int IntKind.i64 (IntKind.wrap IntKind.i64 (k + (1 : Int))))) (87 : Nat) [] none (Hp.mk (Tr.node (Tr.node Tr.leaf (some (Row.mk [Value.bool e0, Value.bool true] false Ob.cells)) Tr.leaf) (some (Row.mk (List.map (Value.int IntKind.i64) xs) true Ob.cells)) Tr.leaf) (2 : Nat)))
              (N (some (Value.slice (some (Addr.mk (0 : Nat) (0 : Nat) none)) (List.length xs) (1 : Nat))) (some (Value.int IntKind.i64 (nextS s (cellI (List.map (Value.int IntKind.i64) xs) ((0 : Nat) + Int.toNat k * (1 : Nat)))))) (some (Value.pointer (some (Addr.mk (1 : Nat) (0 : Nat) none)))) (some (Value.bool (IntKind.wrap IntKind.i64 (cellI (List.map (Value.int IntKind.i64) xs) ((0 : Nat) + Int.toNat k * (1 : Nat)) - (10 : Int)) == (5 : Int)))) (some (Value.int IntKind.i64 (IntKind.wrap IntKind.i64 (k + (1 : Int))))) (87 : Nat) [] none (Hp.mk (Tr.node (Tr.node Tr.leaf (some (Row.mk [Value.bool e0, Value.bool true] false Ob.cells)) Tr.leaf) (some (Row.mk (List.map (Value.int IntKind.i64) xs) true Ob.cells)) Tr.leaf) (2 : Nat))))
             (br (r)
              (N (some (Value.slice (some (Addr.mk (0 : Nat) (0 : Nat) none)) (List.length xs) (1 : Nat))) (some (Value.int IntKind.i64 (nextS s (cellI (List.map (Value.int IntKind.i64) xs) ((0 : Nat) + Int.toNat k * (1 : Nat)))))) (some (Value.pointer (some (Addr.mk (1 : Nat) (0 : Nat) none)))) (some (Value.bool true)) (some (Value.int IntKind.i64 (IntKind.wrap IntKind.i64 (k + (1 : Int))))) (87 : Nat) [] none (Hp.mk (Tr.node (Tr.node Tr.leaf (some (Row.mk [Value.bool e0, Value.bool e1] false Ob.cells)) Tr.leaf) (some (Row.mk (List.map (Value.int IntKind.i64) xs) true Ob.cells)) Tr.leaf) (2 : Nat)))
              (N (some (Value.slice (some (Addr.mk (0 : Nat) (0 : Nat) none)) (List.length xs) (1 : Nat))) (some (Value.int IntKind.i64 (nextS s (cellI (List.map (Value.int IntKind.i64) xs) ((0 : Nat) + Int.toNat k * (1 : Nat)))))) (some (Value.pointer (some (Addr.mk (1 : Nat) (0 : Nat) none)))) (some (Value.bool (IntKind.wrap IntKind.i64 (cellI (List.map (Value.int IntKind.i64) xs) ((0 : Nat) + Int.toNat k * (1 : Nat)) - (10 : Int)) == (5 : Int)))) (some (Value.int IntKind.i64 (IntKind.wrap IntKind.i64 (k + (1 : Int))))) (87 : Nat) [] none (Hp.mk (Tr.node (Tr.node Tr.leaf (some (Row.mk [Value.bool e0, Value.bool e1] false Ob.cells)) Tr.leaf) (some (Row.mk (List.map (Value.int IntKind.i64) xs) true Ob.cells)) Tr.leaf) (2 : Nat)))))))
          (br (IntKind.wrap IntKind.i64 (cellI (List.map (Value.int IntKind.i64) xs) ((0 : Nat) + Int.toNat k * (1 : Nat)) - (10 : Int)) == (1 : Int))
           (br (r)
            (N (some (Value.slice (some (Addr.mk (0 : Nat) (0 : Nat) none)) (List.length xs) (1 : Nat))) (some (Value.int IntKind.i64 (nextS s (cellI (List.map (Value.int IntKind.i64) xs) ((0 : Nat) + Int.toNat k * (1 : Nat)))))) (some (Value.pointer (some (Addr.mk (1 : Nat) (0 : Nat) none)))) (some (Value.bool true)) (some (Value.int IntKind.i64 (IntKind.wrap IntKind.i64 (k + (1 : Int))))) (87 : Nat) [] none (Hp.mk (Tr.node (Tr.node Tr.leaf (some (Row.mk [Value.bool e0, Value.bool true] false Ob.cells)) Tr.leaf) (some (Row.mk (List.map (Value.int IntKind.i64) xs) true Ob.cells)) Tr.leaf) (2 : Nat)))
            (N (some (Value.slice (some (Addr.mk (0 : Nat) (0 : Nat) none)) (List.length xs) (1 : Nat))) (some (Value.int IntKind.i64 (nextS s (cellI (List.map (Value.int IntKind.i64) xs) ((0 : Nat) + Int.toNat k * (1 : Nat)))))) (some (Value.pointer (some (Addr.mk (1 : Nat) (0 : Nat) none)))) (some (Value.bool (IntKind.wrap IntKind.i64 (cellI (List.map (Value.int IntKind.i64) xs) ((0 : Nat) + Int.toNat k * (1 : Nat)) - (10 : Int)) == (5 : Int)))) (some (Value.int IntKind.i64 (IntKind.wrap IntKind.i64 (k + (1 : Int))))) (87 : Nat) [] none (Hp.mk (Tr.node (Tr.node Tr.leaf (some (Row.mk [Value.bool e0, Value.bool true] false Ob.cells)) Tr.leaf) (some (Row.mk (List.map (Value.int IntKind.i64) xs) true Ob.cells)) Tr.leaf) (2 : Nat))))
           (br (IntKind.wrap IntKind.i64 (cellI (List.map (Value.int IntKind.i64) xs) ((0 : Nat) + Int.toNat k * (1 : Nat)) - (10 : Int)) == (3 : Int))
            (br (r)
             (N (some (Value.slice (some (Addr.mk (0 : Nat) (0 : Nat) none)) (List.length xs) (1 : Nat))) (some (Value.int IntKind.i64 (nextS s (cellI (List.map (Value.int IntKind.i64) xs) ((0 : Nat) + Int.toNat k * (1 : Nat)))))) (some (Value.pointer (some (Addr.mk (1 : Nat) (0 : Nat) none)))) (some (Value.bool true)) (some (Value.int IntKind.i64 (IntKind.wrap IntKind.i64 (k + (1 : Int))))) (87 : Nat) [] none (Hp.mk (Tr.node (Tr.node Tr.leaf (some (Row.mk [Value.bool e0, Value.bool true] false Ob.cells)) Tr.leaf) (some (Row.mk (List.map (Value.int IntKind.i64) xs) true Ob.cells)) Tr.leaf) (2 : Nat)))
             (N (some (Value.slice (some (Addr.mk (0 : Nat) (0 : Nat) none)) (List.length xs) (1 : Nat))) (some (Value.int IntKind.i64 (nextS s (cellI (List.map (Value.int IntKind.i64) xs) ((0 : Nat) + Int.toNat k * (1 : Nat)))))) (some (Value.pointer (some (Addr.mk (1 : Nat) (0 : Nat) none)))) (some (Value.bool (IntKind.wrap IntKind.i64 (cellI (List.map (Value.int IntKind.i64) xs) ((0 : Nat) + Int.toNat k * (1 : Nat)) - (10 : Int)) == (5 : Int)))) (some (Value.int IntKind.i64 (IntKind.wrap IntKind.i64 (k + (1 : Int))))) (87 : Nat) [] none (Hp.mk (Tr.node (Tr.node Tr.leaf (some (Row.mk [Value.bool e0, Value.bool true] false Ob.cells)) Tr.leaf) (some (Row.mk (List.map (Value.int IntKind.i64) xs) true Ob.cells)) Tr.leaf) (2 : Nat))))
            (br (r)
             (N (some (Value.slice (some (Addr.mk (0 : Nat) (0 : Nat) none)) (List.length xs) (1 : Nat))) (some (Value.int IntKind.i64 (nextS s (cellI (List.map (Value.int IntKind.i64) xs) ((0 : Nat) + Int.toNat k * (1 : Nat)))))) (some (Value.pointer (some (Addr.mk (1 : Nat) (0 : Nat) none)))) (some (Value.bool true)) (some (Value.int IntKind.i64 (IntKind.wrap IntKind.i64 (k + (1 : Int))))) (87 : Nat) [] none (Hp.mk (Tr.node (Tr.node Tr.leaf (some (Row.mk [Value.bool e0, Value.bool e1] false Ob.cells)) Tr.leaf) (some (Row.mk (List.map (Value.int IntKind.i64) xs) true Ob.cells)) Tr.leaf) (2 : Nat)))
             (N (some (Value.slice (some (Addr.mk (0 : Nat) (0 : Nat) none)) (List.length xs) (1 : Nat))) (some (Value.int IntKind.i64 (nextS s (cellI (List.map (Value.int IntKind.i64) xs) ((0 : Nat) + Int.toNat k * (1 : Nat)))))) (some (Value.pointer (some (Addr.mk (1 : Nat) (0 : Nat) none)))) (some (Value.bool (IntKind.wrap IntKind.i64 (cellI (List.map (Value.int IntKind.i64) xs) ((0 : Nat) + Int.toNat k * (1 : Nat)) - (10 : Int)) == (5 : Int)))) (some (Value.int IntKind.i64 (IntKind.wrap IntKind.i64 (k + (1 : Int))))) (87 : Nat) [] none (Hp.mk (Tr.node (Tr.node Tr.leaf (some (Row.mk [Value.bool e0, Value.bool e1] false Ob.cells)) Tr.leaf) (some (Row.mk (List.map (Value.int IntKind.i64) xs) true Ob.cells)) Tr.leaf) (2 : Nat)))))))))
       (br (r)
        False
        (br (e0)
         (br (cellI (List.map (Value.int IntKind.i64) xs) ((0 : Nat) + Int.toNat k * (1 : Nat)) != (5 : Int))
          False
          (br (e0)
           (br (e1)
            False
            (br (cellI (List.map (Value.int IntKind.i64) xs) ((0 : Nat) + Int.toNat k * (1 : Nat)) == (1 : Int))
             (br (r)
              (N (some (Value.slice (some (Addr.mk (0 : Nat) (0 : Nat) none)) (List.length xs) (1 : Nat))) (some (Value.int IntKind.i64 (nextS s (cellI (List.map (Value.int IntKind.i64) xs) ((0 : Nat) + Int.toNat k * (1 : Nat)))))) (some (Value.pointer (some (Addr.mk (1 : Nat) (0 : Nat) none)))) (some (Value.bool true)) (some (Value.int IntKind.i64 (IntKind.wrap IntKind.i64 (k + (1 : Int))))) (87 : Nat) [] none (Hp.mk (Tr.node (Tr.node Tr.leaf (some (Row.mk [Value.bool true, Value.bool e1] false Ob.cells)) Tr.leaf) (some (Row.mk (List.map (Value.int IntKind.i64) xs) true Ob.cells)) Tr.leaf) (2 : Nat)))
              (N (some (Value.slice (some (Addr.mk (0 : Nat) (0 : Nat) none)) (List.length xs) (1 : Nat))) (some (Value.int IntKind.i64 (nextS s (cellI (List.map (Value.int IntKind.i64) xs) ((0 : Nat) + Int.toNat k * (1 : Nat)))))) (some (Value.pointer (some (Addr.mk (1 : Nat) (0 : Nat) none)))) (some (Value.bool (cellI (List.map (Value.int IntKind.i64) xs) ((0 : Nat) + Int.toNat k * (1 : Nat)) == (5 : Int)))) (some (Value.int IntKind.i64 (IntKind.wrap IntKind.i64 (k + (1 : Int))))) (87 : Nat) [] none (Hp.mk (Tr.node (Tr.node Tr.leaf (some (Row.mk [Value.bool true, Value.bool e1] false Ob.cells)) Tr.leaf) (some (Row.mk (List.map (Value.int IntKind.i64) xs) true Ob.cells)) Tr.leaf) (2 : Nat))))
             (br (cellI (List.map (Value.int IntKind.i64) xs) ((0 : Nat) + Int.toNat k * (1 : Nat)) == (3 : Int))
              (br (r)
               (N (some (Value.slice (some (Addr.mk (0 : Nat) (0 : Nat) none)) (List.length xs) (1 : Nat))) (some (Value.int IntKind.i64 (nextS s (cellI (List.map (Value.int IntKind.i64) xs) ((0 : Nat) + Int.toNat k * (1 : Nat)))))) (some (Value.pointer (some (Addr.mk (1 : Nat) (0 : Nat) none)))) (some (Value.bool true)) (some (Value.int IntKind.i64 (IntKind.wrap IntKind.i64 (k + (1 : Int))))) (87 : Nat) [] none (Hp.mk (Tr.node (Tr.node Tr.leaf (some (Row.mk [Value.bool true, Value.bool e1] false Ob.cells)) Tr.leaf) (some (Row.mk (List.map (Value.int IntKind.i64) xs) true Ob.cells)) Tr.leaf) (2 : Nat)))
               (N (some (Value.slice (some (Addr.mk (0 : Nat) (0 : Nat) none)) (List.length xs) (1 : Nat))) (some (Value.int IntKind.i64 (nextS s (cellI (List.map (Value.int IntKind.i64) xs) ((0 : Nat) + Int.toNat k * (1 : Nat)))))) (some (Value.pointer (some (Addr.mk (1 : Nat) (0 : Nat) none)))) (some (Value.bool (cellI (List.map (Value.int IntKind.i64) xs) ((0 : Nat) + Int.toNat k * (1 : Nat)) == (5 : Int)))) (some (Value.int IntKind.i64 (IntKind.wrap IntKind.i64 (k + (1 : Int))))) (87 : Nat) [] none (Hp.mk (Tr.node (Tr.node Tr.leaf (some (Row.mk [Value.bool true, Value.bool e1] false Ob.cells)) Tr.leaf) (some (Row.mk (List.map (Value.int IntKind.i64) xs) true Ob.cells)) Tr.leaf) (2 : Nat))))
              (br (r)
               (N (some (Value.slice (some (Addr.mk (0 : Nat) (0 : Nat) none)) (List.length xs) (1 : Nat))) (some (Value.int IntKind.i64 (nextS s (cellI (List.map (Value.int IntKind.i64) xs) ((0 : Nat) + Int.toNat k * (1 : Nat)))))) (some (Value.pointer (some (Addr.mk (1 : Nat) (0 : Nat) none)))) (some (Value.bool true)) (some (Value.int IntKind.i64 (IntKind.wrap IntKind.i64 (k + (1 : Int))))) (87 : Nat) [] none (Hp.mk (Tr.node (Tr.node Tr.leaf (some (Row.mk [Value.bool e0, Value.bool e1] false Ob.cells)) Tr.leaf) (some (Row.mk (List.map (Value.int IntKind.i64) xs) true Ob.cells)) Tr.leaf) (2 : Nat)))
               (N (some (Value.slice (some (Addr.mk (0 : Nat) (0 : Nat) none)) (List.length xs) (1 : Nat))) (some (Value.int IntKind.i64 (nextS s (cellI (List.map (Value.int IntKind.i64) xs) ((0 : Nat) + Int.toNat k * (1 : Nat)))))) (some (Value.pointer (some (Addr.mk (1 : Nat) (0 : Nat) none)))) (some (Value.bool (cellI (List.map (Value.int IntKind.i64) xs) ((0 : Nat) + Int.toNat k * (1 : Nat)) == (5 : Int)))) (some (Value.int IntKind.i64 (IntKind.wrap IntKind.i64 (k + (1 : Int))))) (87 : Nat) [] none (Hp.mk (Tr.node (Tr.node Tr.leaf (some (Row.mk [Value.bool e0, Value.bool e1] false Ob.cells)) Tr.leaf) (some (Row.mk (List.map (Value.int IntKind.i64) xs) true Ob.cells)) Tr.leaf) (2 : Nat)))))))
           (br (cellI (List.map (Value.int IntKind.i64) xs) ((0 : Nat) + Int.toNat k * (1 : Nat)) == (1 : Int))
            (br (r)
             (N (some (Value.slice (some (Addr.mk (0 : Nat) (0 : Nat) none)) (List.length xs) (1 : Nat))) (some (Value.int IntKind.i64 (nextS s (cellI (List.map (Value.int IntKind.i64) xs) ((0 : Nat) + Int.toNat k * (1 : Nat)))))) (some (Value.pointer (some (Addr.mk (1 : Nat) (0 : Nat) none)))) (some (Value.bool true)) (some (Value.int IntKind.i64 (IntKind.wrap IntKind.i64 (k + (1 : Int))))) (87 : Nat) [] none (Hp.mk (Tr.node (Tr.node Tr.leaf (some (Row.mk [Value.bool true, Value.bool e1] false Ob.cells)) Tr.leaf) (some (Row.mk (List.map (Value.int IntKind.i64) xs) true Ob.cells)) Tr.leaf) (2 : Nat)))
             (N (some (Value.slice (some (Addr.mk (0 : Nat) (0 : Nat) none)) (List.length xs) (1 : Nat))) (some (Value.int IntKind.i64 (nextS s (cellI (List.map (Value.int IntKind.i64) xs) ((0 : Nat) + Int.toNat k * (1 : Nat)))))) (some (Value.pointer (some (Addr.mk (1 : Nat) (0 : Nat) none)))) (some (Value.bool (cellI (List.map (Value.int IntKind.i64) xs) ((0 : Nat) + Int.toNat k * (1 : Nat)) == (5 : Int)))) (some (Value.int IntKind.i64 (IntKind.wrap IntKind.i64 (k + (1 : Int))))) (87 : Nat) [] none (Hp.mk (Tr.node (Tr.node Tr.leaf (some (Row.mk [Value.bool true, Value.bool e1] false Ob.cells)) Tr.leaf) (some (Row.mk (List.map (Value.int IntKind.i64) xs) true Ob.cells)) Tr.leaf) (2 : Nat))))
            (br (cellI (List.map (Value.int IntKind.i64) xs) ((0 : Nat) + Int.toNat k * (1 : Nat)) == (3 : Int))
             (br (r)
              (N (some (Value.slice (some (Addr.mk (0 : Nat) (0 : Nat) none)) (List.length xs) (1 : Nat))) (some (Value.int IntKind.i64 (nextS s (cellI (List.map (Value.int IntKind.i64) xs) ((0 : Nat) + Int.toNat k * (1 : Nat)))))) (some (Value.pointer (some (Addr.mk (1 : Nat) (0 : Nat) none)))) (some (Value.bool true)) (some (Value.int IntKind.i64 (IntKind.wrap IntKind.i64 (k + (1 : Int))))) (87 : Nat) [] none (Hp.mk (Tr.node (Tr.node Tr.leaf (some (Row.mk [Value.bool true, Value.bool e1] false Ob.cells)) Tr.leaf) (some (Row.mk (List.map (Value.int IntKind.i64) xs) true Ob.cells)) Tr.leaf) (2 : Nat)))
              (N (some (Value.slice (some (Addr.mk (0 : Nat) (0 : Nat) none)) (List.length xs) (1 : Nat))) (some (Value.int IntKind.i64 (nextS s (cellI (List.map (Value.int IntKind.i64) xs) ((0 : Nat) + Int.toNat k * (1 : Nat)))))) (some (Value.pointer (some (Addr.mk (1 : Nat) (0 : Nat) none)))) (some (Value.bool (cellI (List.map (Value.int IntKind.i64) xs) ((0 : Nat) + Int.toNat k * (1 : Nat)) == (5 : Int)))) (some (Value.int IntKind.i64 (IntKind.wrap IntKind.i64 (k + (1 : Int))))) (87 : Nat) [] none (Hp.mk (Tr.node (Tr.node Tr.leaf (some (Row.mk [Value.bool true, Value.bool e1] false Ob.cells)) Tr.leaf) (some (Row.mk (List.map (Value.int IntKind.i64) xs) true Ob.cells)) Tr.leaf) (2 : Nat))))
             (br (r)
              (N (some (Value.slice (some (Addr.mk (0 : Nat) (0 : Nat) none)) (List.length xs) (1 : Nat))) (some (Value.int IntKind.i64 (nextS s (cellI (List.map (Value.int IntKind.i64) xs) ((0 : Nat) + Int.toNat k * (1 : Nat)))))) (some (Value.pointer (some (Addr.mk (1 : Nat) (0 : Nat) none)))) (some (Value.bool true)) (some (Value.int IntKind.i64 (IntKind.wrap IntKind.i64 (k + (1 : Int))))) (87 : Nat) [] none (Hp.mk (Tr.node (Tr.node Tr.leaf (some (Row.mk [Value.bool e0, Value.bool e1] false Ob.cells)) Tr.leaf) (some (Row.mk (List.map (Value.int IntKind.i64) xs) true Ob.cells)) Tr.leaf) (2 : Nat)))
              (N (some (Value.slice (some (Addr.mk (0 : Nat) (0 : Nat) none)) (List.length xs) (1 : Nat))) (some (Value.int IntKind.i64 (nextS s (cellI (List.map (Value.int IntKind.i64) xs) ((0 : Nat) + Int.toNat k * (1 : Nat)))))) (some (Value.pointer (some (Addr.mk (1 : Nat) (0 : Nat) none)))) (some (Value.bool (cellI (List.map (Value.int IntKind.i64) xs) ((0 : Nat) + Int.toNat k * (1 : Nat)) == (5 : Int)))) (some (Value.int IntKind.i64 (IntKind.wrap IntKind.i64 (k + (1 : Int))))) (87 : Nat) [] none (Hp.mk (Tr.node (Tr.node Tr.leaf (some (Row.mk [Value.bool e0, Value.bool e1] false Ob.cells)) Tr.leaf) (some (Row.mk (List.map (Value.int IntKind.i64) xs) true Ob.cells)) Tr.leaf) (2 : Nat))))))))
         (br (e0)
          (br (e1)
           False
           (br (cellI (List.map (Value.int IntKind.i64) xs) ((0 : Nat) + Int.toNat k * (1 : Nat)) == (1 : Int))
            (br (r)
             (N (some (Value.slice (some (Addr.mk (0 : Nat) (0 : Nat) none)) (List.length xs) (1 : Nat))) (some (Value.int IntKind.i64 (nextS s (cellI (List.map (Value.int IntKind.i64) xs) ((0 : Nat) + Int.toNat k * (1 : Nat)))))) (some (Value.pointer (some (Addr.mk (1 : Nat) (0 : Nat) none)))) (some (Value.bool true)) (some (Value.int IntKind.i64 (IntKind.wrap IntKind.i64 (k + (1 : Int))))) (87 : Nat) [] none (Hp.mk (Tr.node (Tr.node Tr.leaf (some (Row.mk [Value.bool true, Value.bool e1] false Ob.cells)) Tr.leaf) (some (Row.mk (List.map (Value.int IntKind.i64) xs) true Ob.cells)) Tr.leaf) (2 : Nat)))
             (N (some (Value.slice (some (Addr.mk (0 : Nat) (0 : Nat) none)) (List.length xs) (1 : Nat))) (some (Value.int IntKind.i64 (nextS s (cellI (List.map (Value.int IntKind.i64) xs) ((0 : Nat) + Int.toNat k * (1 : Nat)))))) (some (Value.pointer (some (Addr.mk (1 : Nat) (0 : Nat) none)))) (some (Value.bool (cellI (List.map (Value.int IntKind.i64) xs) ((0 : Nat) + Int.toNat k * (1 : Nat)) == (5 : Int)))) (some (Value.int IntKind.i64 (IntKind.wrap IntKind.i64 (k + (1 : Int))))) (87 : Nat) [] none (Hp.mk (Tr.node (Tr.node Tr.leaf (some (Row.mk [Value.bool true, Value.bool e1] false Ob.cells)) Tr.leaf) (some (Row.mk (List.map (Value.int IntKind.i64) xs) true Ob.cells)) Tr.leaf) (2 : Nat))))
            (br (cellI (List.map (Value.int IntKind.i64) xs) ((0 : Nat) + Int.toNat k * (1 : Nat)) == (3 : Int))
             (br (r)
              (N (some (Value.slice (some (Addr.mk (0 : Nat) (0 : Nat) none)) (List.length xs) (1 : Nat))) (some (Value.int IntKind.i64 (nextS s (cellI (List.map (Value.int IntKind.i64) xs) ((0 : Nat) + Int.toNat k * (1 : Nat)))))) (some (Value.pointer (some (Addr.mk (1 : Nat) (0 : Nat) none)))) (some (Value.bool true)) (some (Value.int IntKind.i64 (IntKind.wrap IntKind.i64 (k + (1 : Int))))) (87 : Nat) [] none (Hp.mk (Tr.node (Tr.node Tr.leaf (some (Row.mk [Value.bool true, Value.bool e1] false Ob.cells)) Tr.leaf) (some (Row.mk (List.map (Value.int IntKind.i64) xs) true Ob.cells)) Tr.leaf) (2 : Nat)))
              (N (some (Value.slice (some (Addr.mk (0 : Nat) (0 : Nat) none)) (List.length xs) (1 : Nat))) (some (Value.int IntKind.i64 (nextS s (cellI (List.map (Value.int IntKind.i64) xs) ((0 : Nat) + Int.toNat k * (1 : Nat)))))) (some (Value.pointer (some (Addr.mk (1 : Nat) (0 : Nat) none)))) (some (Value.bool (cellI (List.map (Value.int IntKind.i64) xs) ((0 : Nat) + Int.toNat k * (1 : Nat)) == (5 : Int)))) (some (Value.int IntKind.i64 (IntKind.wrap IntKind.i64 (k + (1 : Int))))) (87 : Nat) [] none (Hp.mk (Tr.node (Tr.node Tr.leaf (some (Row.mk [Value.bool true, Value.bool e1] false Ob.cells)) Tr.leaf) (some (Row.mk (List.map (Value.int IntKind.i64) xs) true Ob.cells)) Tr.leaf) (2 : Nat))))
             (br (r)
              (N (some (Value.slice (some (Addr.mk (0 : Nat) (0 : Nat) none)) (List.length xs) (1 : Nat))) (some (Value.int IntKind.i64 (nextS s (cellI (List.map (Value.int IntKind.i64) xs) ((0 : Nat) + Int.toNat k * (1 : Nat)))))) (some (Value.pointer (some (Addr.mk (1 : Nat) (0 : Nat) none)))) (some (Value.bool true)) (some (Value.int IntKind.i64 (IntKind.wrap IntKind.i64 (k + (1 : Int))))) (87 : Nat) [] none (Hp.mk (Tr.node (Tr.node Tr.leaf (some (Row.mk [Value.bool e0, Value.bool e1] false Ob.cells)) Tr.leaf) (some (Row.mk (List.map (Value.int IntKind.i64) xs) true Ob.cells)) Tr.leaf) (2 : Nat)))
              (N (some (Value.slice (some (Addr.mk (0 : Nat) (0 : Nat) none)) (List.length xs) (1 : Nat))) (some (Value.int IntKind.i64 (nextS s (cellI (List.map (Value.int IntKind.i64) xs) ((0 : Nat) + Int.toNat k * (1 : Nat)))))) (some (Value.pointer (some (Addr.mk (1 : Nat) (0 : Nat) none)))) (some (Value.bool (cellI (List.map (Value.int IntKind.i64) xs) ((0 : Nat) + Int.toNat k * (1 : Nat)) == (5 : Int)))) (some (Value.int IntKind.i64 (IntKind.wrap IntKind.i64 (k + (1 : Int))))) (87 : Nat) [] none (Hp.mk (Tr.node (Tr.node Tr.leaf (some (Row.mk [Value.bool e0, Value.bool e1] false Ob.cells)) Tr.leaf) (some (Row.mk (List.map (Value.int IntKind.i64) xs) true Ob.cells)) Tr.leaf) (2 : Nat)))))))
          (br (cellI (List.map (Value.int IntKind.i64) xs) ((0 : Nat) + Int.toNat k * (1 : Nat)) == (1 : Int))
           (br (r)
            (N (some (Value.slice (some (Addr.mk (0 : Nat) (0 : Nat) none)) (List.length xs) (1 : Nat))) (some (Value.int IntKind.i64 (nextS s (cellI (List.map (Value.int IntKind.i64) xs) ((0 : Nat) + Int.toNat k * (1 : Nat)))))) (some (Value.pointer (some (Addr.mk (1 : Nat) (0 : Nat) none)))) (some (Value.bool true)) (some (Value.int IntKind.i64 (IntKind.wrap IntKind.i64 (k + (1 : Int))))) (87 : Nat) [] none (Hp.mk (Tr.node (Tr.node Tr.leaf (some (Row.mk [Value.bool true, Value.bool e1] false Ob.cells)) Tr.leaf) (some (Row.mk (List.map (Value.int IntKind.i64) xs) true Ob.cells)) Tr.leaf) (2 : Nat)))
            (N (some (Value.slice (some (Addr.mk (0 : Nat) (0 : Nat) none)) (List.length xs) (1 : Nat))) (some (Value.int IntKind.i64 (nextS s (cellI (List.map (Value.int IntKind.i64) xs) ((0 : Nat) + Int.toNat k * (1 : Nat)))))) (some (Value.pointer (some (Addr.mk (1 : Nat) (0 : Nat) none)))) (some (Value.bool (cellI (List.map (Value.int IntKind.i64) xs) ((0 : Nat) + Int.toNat k * (1 : Nat)) == (5 : Int)))) (some (Value.int IntKind.i64 (IntKind.wrap IntKind.i64 (k + (1 : Int))))) (87 : Nat) [] none (Hp.mk (Tr.node (Tr.node Tr.leaf (some (Row.mk [Value.bool true, Value.bool e1] false Ob.cells)) Tr.leaf) (some (Row.mk (List.map (Value.int IntKind.i64) xs) true Ob.cells)) Tr.leaf) (2 : Nat))))
           (br (cellI (List.map (Value.int IntKind.i64) xs) ((0 : Nat) + Int.toNat k * (1 : Nat)) == (3 : Int))
            (br (r)
             (N (some (Value.slice (some (Addr.mk (0 : Nat) (0 : Nat) none)) (List.length xs) (1 : Nat))) (some (Value.int IntKind.i64 (nextS s (cellI (List.map (Value.int IntKind.i64) xs) ((0 : Nat) + Int.toNat k * (1 : Nat)))))) (some (Value.pointer (some (Addr.mk (1 : Nat) (0 : Nat) none)))) (some (Value.bool true)) (some (Value.int IntKind.i64 (IntKind.wrap IntKind.i64 (k + (1 : Int))))) (87 : Nat) [] none (Hp.mk (Tr.node (Tr.node Tr.leaf (some (Row.mk [Value.bool true, Value.bool e1] false Ob.cells)) Tr.leaf) (some (Row.mk (List.map (Value.int IntKind.i64) xs) true Ob.cells)) Tr.leaf) (2 : Nat)))
             (N (some (Value.slice (some (Addr.mk (0 : Nat) (0 : Nat) none)) (List.length xs) (1 : Nat))) (some (Value.int IntKind.i64 (nextS s (cellI (List.map (Value.int IntKind.i64) xs) ((0 : Nat) + Int.toNat k * (1 : Nat)))))) (some (Value.pointer (some (Addr.mk (1 : Nat) (0 : Nat) none)))) (some (Value.bool (cellI (List.map (Value.int IntKind.i64) xs) ((0 : Nat) + Int.toNat k * (1 : Nat)) == (5 : Int)))) (some (Value.int IntKind.i64 (IntKind.wrap IntKind.i64 (k + (1 : Int))))) (87 : Nat) [] none (Hp.mk (Tr.node (Tr.node Tr.leaf (some (Row.mk [Value.bool true, Value.bool e1] false Ob.cells)) Tr.leaf) (some (Row.mk (List.map (Value.int IntKind.i64) xs) true Ob.cells)) Tr.leaf) (2 : Nat))))
            (br (r)
             (N (some (Value.slice (some (Addr.mk (0 : Nat) (0 : Nat) none)) (List.length xs) (1 : Nat))) (some (Value.int IntKind.i64 (nextS s (cellI (List.map (Value.int IntKind.i64) xs) ((0 : Nat) + Int.toNat k * (1 : Nat)))))) (some (Value.pointer (some (Addr.mk (1 : Nat) (0 : Nat) none)))) (some (Value.bool true)) (some (Value.int IntKind.i64 (IntKind.wrap IntKind.i64 (k + (1 : Int))))) (87 : Nat) [] none (Hp.mk (Tr.node (Tr.node Tr.leaf (some (Row.mk [Value.bool e0, Value.bool e1] false Ob.cells)) Tr.leaf) (some (Row.mk (List.map (Value.int IntKind.i64) xs) true Ob.cells)) Tr.leaf) (2 : Nat)))
             (N (some (Value.slice (some (Addr.mk (0 : Nat) (0 : Nat) none)) (List.length xs) (1 : Nat))) (some (Value.int IntKind.i64 (nextS s (cellI (List.map (Value.int IntKind.i64) xs) ((0 : Nat) + Int.toNat k * (1 : Nat)))))) (some (Value.pointer (some (Addr.mk (1 : Nat) (0 : Nat) none)))) (some (Value.bool (cellI (List.map (Value.int IntKind.i64) xs) ((0 : Nat) + Int.toNat k * (1 : Nat)) == (5 : Int)))) (some (Value.int IntKind.i64 (IntKind.wrap IntKind.i64 (k + (1 : Int))))) (87 : Nat) [] none (Hp.mk (Tr.node (Tr.node Tr.leaf (some (Row.mk [Value.bool e0, Value.bool e1] false Ob.cells)) Tr.leaf) (some (Row.mk (List.map (Value.int IntKind.i64) xs) true Ob.cells)) Tr.leaf) (2 : Nat)))))))))))))
     False)
    (X (0 : Nat) (some (Value.int IntKind.i64 s)) (some (Value.pointer (some (Addr.mk (1 : Nat) (0 : Nat) none)))) (some (Value.bool r)) (87 : Nat) [] none (Hp.mk (Tr.node (Tr.node Tr.leaf (some (Row.mk [Value.bool e0, Value.bool e1] false Ob.cells)) Tr.leaf) (some (Row.mk (List.map (Value.int IntKind.i64) xs) true Ob.cells)) Tr.leaf) (2 : Nat))))
   (X (0 : Nat) (some (Value.int IntKind.i64 s)) (some (Value.pointer (some (Addr.mk (1 : Nat) (0 : Nat) none)))) (some (Value.bool r)) (87 : Nat) [] none (Hp.mk (Tr.node (Tr.node Tr.leaf (some (Row.mk [Value.bool e0, Value.bool e1] false Ob.cells)) Tr.leaf) (some (Row.mk (List.map (Value.int IntKind.i64) xs) true Ob.cells)) Tr.leaf) (2 : Nat)))) := by kernel_rfl

theorem next_ok (s e : Int) (he : I64 e) : Flat Try.prog 12 [.int .i64 s, .int .i64 e] (.tuple #[.int .i64 (nextS s e), .bool (nextOk s e)]) := by
  refine flat_vc (E := E0) mixed (calls_bare _) (lok_bare _) (by kernel_rfl) rfl rfl (next_vc s e _) ?_
  unfold I64 at he
  have fin : ∀ (x : Int) (b : Bool), nextP s e = (x, b) → Ev.End.ret (Value.tuple (Array.mk [Value.int IntKind.i64 x, Value.bool b])) = Ev.End.ret (.tuple #[.int .i64 (nextS s e), .bool (nextOk s e)]) := by
    intro x b h; simp only [nextS, nextOk, h]
  by_cases h10 : e > 10
  · have w : IntKind.wrap .i64 (e - 10) = e - 10 := wr64_id ⟨by omega, by omega⟩
    have hp : plainE e = e - 10 := by simp [plainE, h10]
    have hs : side e = 2 := by simp [side, h10]
    rw [w, decide_eq_true h10]
    refine br_intro (fun _ => ?_) (fun h => by simp at h)
    (repeat' (refine br_intro (fun h => ?_) (fun h => ?_))) <;> refine fin _ _ ?_ <;> simp only [decide_eq_true_eq, decide_eq_false_iff_not, beq_iff_eq, beq_eq_false_iff_ne] at * <;> unfold nextP <;> rw [hp, hs] <;> (repeat' split) <;> first | rfl | omega | (simp; omega) | (exfalso; omega)
  · have hp : plainE e = e := by simp [plainE, h10]
    have hs : side e = 3 := by simp [side, h10]
    rw [decide_eq_false h10]
    refine br_intro (fun h => by simp at h) (fun _ => ?_)
    (repeat' (refine br_intro (fun h => ?_) (fun h => ?_))) <;> refine fin _ _ ?_ <;> simp only [decide_eq_true_eq, decide_eq_false_iff_not, beq_iff_eq, beq_eq_false_iff_ne] at * <;> unfold nextP <;> rw [hp, hs] <;> (repeat' split) <;> first | rfl | omega | (simp; omega) | (exfalso; omega)

theorem runs : Flat Try.prog 3 [] (.bool true) := fun w => run_closed mixed (by kernel_rfl) (args := []) rfl rfl (show ret? (Ev.run Try.prog 1000000 3 [] ⟨.leaf, 0⟩) = some (.bool true) by kernel_rfl) w

theorem calls1 : CallsOk E1.P (oOf E1) := by
  refine calls_flat fun f a h p v h' e hp => ?_
  change T1 f a h = _ at e
  unfold T1 at e
  split at e <;> simp only [Option.some.injEq, Prod.mk.injEq, reduceCtorEq] at e <;> obtain ⟨rfl, rfl, rfl⟩ := e
  · exact ⟨rfl, rfl, rfl, runs⟩
  · exact ⟨rfl, rfl, rfl, next_ok _ _ hp⟩

theorem lok1 : LOk E1 := lok_none fun _ _ => rfl

/-- What is known of a stream behind some events: its state, whether it was reset, which sides ended. -/
def R (s : Int) (r e0 e1 : Bool) : Bool :=
  (decide (s = 0) && !r && !e0 && !e1) || (decide (s = 1) && !r && !e0 && !e1) || (decide (s = 2) && !r && !e0 && e1) || (decide (s = 3) && !r && e0 && !e1) || (decide (s = 4) && (r || (e0 && e1)))
theorem R_cases {s : Int} {r e0 e1 : Bool} (h : R s r e0 e1 = true) : (s = 0 ∧ r = false ∧ e0 = false ∧ e1 = false) ∨ (s = 1 ∧ r = false ∧ e0 = false ∧ e1 = false) ∨ (s = 2 ∧ r = false ∧ e0 = false ∧ e1 = true) ∨ (s = 3 ∧ r = false ∧ e0 = true ∧ e1 = false) ∨ (s = 4 ∧ (r || (e0 && e1)) = true) := by
  unfold R at h
  simp only [Bool.or_eq_true, Bool.and_eq_true, decide_eq_true_eq, Bool.not_eq_true'] at h
  rcases h with (((h | h) | h) | h) | h
  · exact .inl ⟨h.1.1.1, h.1.1.2, h.1.2, h.2⟩
  · exact .inr (.inl ⟨h.1.1.1, h.1.1.2, h.1.2, h.2⟩)
  · exact .inr (.inr (.inl ⟨h.1.1.1, h.1.1.2, h.1.2, h.2⟩))
  · exact .inr (.inr (.inr (.inl ⟨h.1.1.1, h.1.1.2, h.1.2, h.2⟩)))
  · exact .inr (.inr (.inr (.inr ⟨h.1, by simpa using h.2⟩)))
theorem R_end {s : Int} {r e0 e1 : Bool} (h : R s r e0 e1 = true) : ((s == 4) == (r || e0 && e1)) = true := by
  rcases R_cases h with ⟨rfl, rfl, rfl, rfl⟩ | ⟨rfl, rfl, rfl, rfl⟩ | ⟨rfl, rfl, rfl, rfl⟩ | ⟨rfl, rfl, rfl, rfl⟩ | ⟨rfl, hh⟩
  · decide
  · decide
  · decide
  · decide
  · rw [hh]; decide

theorem next_no {s e : Int} (h : nextOk s e = false) : nextS s e = s := by
  unfold nextOk at h; unfold nextS
  unfold nextP at h ⊢
  (repeat' split at h) <;> simp_all
theorem next_yes {s e : Int} (h : nextOk s e = true) : s ≠ 4 ∧ (e = 1 ∨ e = 2 ∨ e = 3 ∨ e = 4 ∨ e = 5 ∨ e = 11 ∨ e = 12 ∨ e = 13 ∨ e = 14 ∨ e = 15) := by
  unfold nextOk at h
  unfold nextP at h
  by_cases hp : plainE e < 1 ∨ plainE e > 5
  · rw [if_pos hp] at h; simp at h
  · have he : e = 1 ∨ e = 2 ∨ e = 3 ∨ e = 4 ∨ e = 5 ∨ e = 11 ∨ e = 12 ∨ e = 13 ∨ e = 14 ∨ e = 15 := by
      unfold plainE at hp
      by_cases h10 : e > 10
      · rw [decide_eq_true h10] at hp; simp only [cond_true] at hp; omega
      · rw [decide_eq_false h10] at hp; simp only [cond_false] at hp; omega
    refine ⟨fun h4 => ?_, he⟩
    subst h4
    rw [if_neg hp] at h
    simp at h

set_option maxHeartbeats 4000000 in
theorem end_body (xs : List Int) (hx : ∀ x ∈ xs, I64 x) (k s : Int) (r e0 e1 : Bool) (h0 : 0 ≤ k) (hm : R s r e0 e1 = true) (N : Option Value → Option Value → Option Value → Option Value → Option Value → Nat → List Deferred → Option FrameMode → Hp → Prop) (X : Nat → Option Value → Option Value → Option Value → Nat → List Deferred → Option FrameMode → Hp → Prop)
    (hX : X 0 (some (.int .i64 s)) (some (.pointer (some ⟨1, 0, none⟩))) (some (.bool r)) 87 [] none (hpM xs e0 e1))
    (hN : ∀ s' r' a b, R s' r' a b = true → k < xs.length → N (some (.slice (some ⟨0, 0, none⟩) xs.length 1)) (some (.int .i64 s')) (some (.pointer (some ⟨1, 0, none⟩))) (some (.bool r')) (some (.int .i64 (IntKind.wrap .i64 (k + 1)))) 87 [] none (hpM xs a b)) :
    sev E1 60 5 (0 :: pth) false (codeOf Try.prog 5 (0 :: pth)) ⟨ovM xs.length k s r, 87, []⟩ none (hpM xs e0 e1) (fun x => match x with | (.normal, fr, u, h) => N (fr.tm.find 0) (fr.tm.find 3) (fr.tm.find 4) (fr.tm.find 5) (fr.tm.find 6) fr.nt fr.df u h | (.exit j, fr, u, h) => X j (fr.tm.find 3) (fr.tm.find 4) (fr.tm.find 5) fr.nt fr.df u h | _ => False) := by
  refine (end_vc xs k s r e0 e1 N X).mpr ?_
  refine br_intro (fun h1 => br_intro (fun _ => ?_) (fun _ => hX)) (fun _ => hX)
  simp only [decide_eq_true_eq] at h1
  have h1 : k < xs.length := h1
  have hi : (0 : Nat) + Int.toNat k * (1 : Nat) < xs.length := by omega
  obtain ⟨c1, c2⟩ := cell_map (k := .i64) hi
  have he : I64 (cellI (List.map (Value.int .i64) xs) ((0 : Nat) + Int.toNat k * (1 : Nat))) := by
    rw [c2]
    have : xs.getD ((0 : Nat) + Int.toNat k * (1 : Nat)) 0 = xs[(0 : Nat) + Int.toNat k * (1 : Nat)] := by simp only [List.getD, List.getElem?_eq_getElem hi, Option.getD_some]
    rw [this]; exact hx _ (List.getElem_mem hi)
  refine br_intro (fun _ => ⟨c1, he, ?_⟩) (fun h => by simp at h; omega)
  generalize cellI (List.map (Value.int .i64) xs) ((0 : Nat) + Int.toNat k * (1 : Nat)) = e at *
  clear c1 c2 hX
  cases hn : nextOk s e with
  | false =>
    have hns := next_no hn
    refine br_intro (fun _ => br_intro (fun h => ?_) (fun _ => hN s r e0 e1 hm h1)) (fun h => by simp at h)
    rw [hns] at h; simp at h
  | true =>
    obtain ⟨h4, hc⟩ := next_yes hn
    refine br_intro (fun h => by simp at h) (fun _ => ?_)
    clear he hx
    rcases R_cases hm with ⟨rfl, rfl, rfl, rfl⟩ | ⟨rfl, rfl, rfl, rfl⟩ | ⟨rfl, rfl, rfl, rfl⟩ | ⟨rfl, rfl, rfl, rfl⟩ | ⟨rfl, _⟩
    · rcases hc with rfl | rfl | rfl | rfl | rfl | rfl | rfl | rfl | rfl | rfl <;> first | (exact absurd hn (by decide)) | (repeat' (first | exact absurd h (by decide) | exact hN _ _ _ _ (by decide) h1 | refine br_intro (fun h => ?_) (fun h => ?_)))
    · rcases hc with rfl | rfl | rfl | rfl | rfl | rfl | rfl | rfl | rfl | rfl <;> first | (exact absurd hn (by decide)) | (repeat' (first | exact absurd h (by decide) | exact hN _ _ _ _ (by decide) h1 | refine br_intro (fun h => ?_) (fun h => ?_)))
    · rcases hc with rfl | rfl | rfl | rfl | rfl | rfl | rfl | rfl | rfl | rfl <;> first | (exact absurd hn (by decide)) | (repeat' (first | exact absurd h (by decide) | exact hN _ _ _ _ (by decide) h1 | refine br_intro (fun h => ?_) (fun h => ?_)))
    · rcases hc with rfl | rfl | rfl | rfl | rfl | rfl | rfl | rfl | rfl | rfl <;> first | (exact absurd hn (by decide)) | (repeat' (first | exact absurd h (by decide) | exact hN _ _ _ _ (by decide) h1 | refine br_intro (fun h => ?_) (fun h => ?_)))
    · exact absurd rfl h4

abbrev St := Int × Int × Bool × Bool × Bool
theorem end_loop (xs : List Int) (hx : ∀ x ∈ xs, I64 x) (hlen : xs.length ≤ maxLen) {fn : Func} {c0 body : Code} (hf : Try.prog.funcs[5]? = some fn) (hb : fn.body = some c0) (hbody : codeAt c0 (0 :: pth) = some body) {K : KO}
    (hK : ∀ (s : Int) (r e0 e1 : Bool), ((s == 4) == (r || e0 && e1)) = true → K (.exit 0, ⟨mkOv [(3, .int .i64 s), (4, .pointer (some ⟨1, 0, none⟩)), (5, .bool r)], 87, []⟩, none, hpM xs e0 e1)) :
    ∀ i : St, (0 ≤ i.1 ∧ R i.2.1 i.2.2.1 i.2.2.2.1 i.2.2.2.2 = true) → OkC E1 false (.loop body) ⟨ovM xs.length i.1 i.2.1 i.2.2.1, 87, []⟩ none (hpM xs i.2.2.2.1 i.2.2.2.2) K := by
  refine loop_ok (E := E1) (ι := St) (fun i => ovM xs.length i.1 i.2.1 i.2.2.1) (fun i => hpM xs i.2.2.2.1 i.2.2.2.2) (fun i => 0 ≤ i.1 ∧ R i.2.1 i.2.2.1 i.2.2.2.1 i.2.2.2.2 = true) (fun i => ((xs.length : Int) - i.1).toNat) (fun i hi => ?_)
  refine OkC.weaken ?_ (okC_of_sev (E := E1) lok1 hf hb hbody (end_body xs hx i.1 i.2.1 i.2.2.1 i.2.2.2.1 i.2.2.2.2 hi.1 hi.2
    (fun s0 s3 s4 s5 s6 nt df u h => ∃ s' r' a b, R s' r' a b = true ∧ i.1 < xs.length ∧ s0 = some (.slice (some ⟨0, 0, none⟩) xs.length 1) ∧ s3 = some (.int .i64 s') ∧ s4 = some (.pointer (some ⟨1, 0, none⟩)) ∧ s5 = some (.bool r') ∧ s6 = some (.int .i64 (IntKind.wrap .i64 (i.1 + 1))) ∧ nt = 87 ∧ df = [] ∧ u = none ∧ h = hpM xs a b)
    (fun j s3 s4 s5 nt df u h => j = 0 ∧ s3 = some (.int .i64 i.2.1) ∧ s4 = some (.pointer (some ⟨1, 0, none⟩)) ∧ s5 = some (.bool i.2.2.1) ∧ nt = 87 ∧ df = [] ∧ u = none ∧ h = hpM xs i.2.2.2.1 i.2.2.2.2) ⟨rfl, rfl, rfl, rfl, rfl, rfl, rfl, rfl⟩ (fun s' r' a b hm hk => ⟨s', r', a, b, hm, hk, rfl, rfl, rfl, rfl, rfl, rfl, rfl, rfl, rfl⟩)))
  intro e tm nt df u h hc
  cases e with
  | normal =>
    obtain ⟨s', r', a, b, hm, hk, e0, e3, e4, e5, e6, rfl, rfl, rfl, rfl⟩ := hc
    unfold maxLen at hlen
    have wk : IntKind.wrap .i64 (i.1 + 1) = i.1 + 1 := wr64_id ⟨by have := hi.1; omega, by omega⟩
    rw [wk] at e6
    refine ⟨tm, Sub.refl _, (i.1 + 1, s', r', a, b), ⟨by have := hi.1; simp only; omega, hm⟩, by simp only; omega, ?_, rfl, rfl, rfl, rfl⟩
    refine sub_mkOv _ ?_
    intro p hp
    simp only [List.mem_cons, List.not_mem_nil, or_false] at hp
    rcases hp with rfl | rfl | rfl | rfl | rfl
    · exact ⟨(by decide : (0 : Nat) < Tr.top), e0⟩
    · exact ⟨(by decide : (3 : Nat) < Tr.top), e3⟩
    · exact ⟨(by decide : (4 : Nat) < Tr.top), e4⟩
    · exact ⟨(by decide : (5 : Nat) < Tr.top), e5⟩
    · exact ⟨(by decide : (6 : Nat) < Tr.top), e6⟩
  | exit j =>
    obtain ⟨rfl, e3, e4, e5, rfl, rfl, rfl, rfl⟩ := hc
    refine ⟨_, ?_, hK _ _ _ _ (R_end hi.2)⟩
    refine sub_mkOv _ ?_
    intro p hp
    simp only [List.mem_cons, List.not_mem_nil, or_false] at hp
    rcases hp with rfl | rfl | rfl
    · exact ⟨(by decide : (3 : Nat) < Tr.top), e3⟩
    · exact ⟨(by decide : (4 : Nat) < Tr.top), e4⟩
    · exact ⟨(by decide : (5 : Nat) < Tr.top), e5⟩
  | _ => exact hc.elim

theorem lok2 (xs : List Int) (hx : ∀ x ∈ xs, I64 x) (hlen : xs.length ≤ maxLen) : LOk (E2 xs) := by
  intro f p spec fn c0 c hl hf hb hc fr u h K hs
  cases hq : (Nat.beq f 5 && decide (p = pth)) with
  | false => simp only [hq, cond_false] at hl; simp at hl
  | true =>
    simp only [hq, cond_true, Option.some.injEq] at hl
    subst hl
    simp only [Bool.and_eq_true, decide_eq_true_eq] at hq
    obtain ⟨h1, rfl⟩ := hq
    have h1 := Nat.eq_of_beq_eq_true h1
    subst h1
    obtain ⟨body, rfl, hbody⟩ := loop_of (P := Try.prog) (f := 5) (p := pth) (by kernel_rfl) hf hb hc
    obtain ⟨e0, e3, e4, e5, e6, e7, e8, rfl, rfl, hK⟩ := hs
    obtain ⟨tm, nt, df⟩ := fr
    simp only at e0 e3 e4 e5 e6 e7 e8
    subst e7; subst e8
    refine OkC.more (E := E1) (ov := ovM xs.length 0 0 false) ?_ (end_loop xs hx hlen hf hb hbody hK (0, 0, false, false, false) ⟨by simp, by simp [R]⟩)
    refine sub_mkOv _ ?_
    intro p hp
    simp only [List.mem_cons, List.not_mem_nil, or_false] at hp
    rcases hp with rfl | rfl | rfl | rfl | rfl
    · exact ⟨(by decide : (0 : Nat) < Tr.top), e0⟩
    · exact ⟨(by decide : (3 : Nat) < Tr.top), e3⟩
    · exact ⟨(by decide : (4 : Nat) < Tr.top), e4⟩
    · exact ⟨(by decide : (5 : Nat) < Tr.top), e5⟩
    · exact ⟨(by decide : (6 : Nat) < Tr.top), e6⟩

theorem calls2 (xs : List Int) : CallsOk (E2 xs).P (oOf (E2 xs)) := calls1

theorem ends_nil : Flat Try.prog 5 [.slice none 0 0] (.bool true) :=
  flat_vc (E := E1) mixed calls1 lok1 (by kernel_rfl) rfl rfl nil_vc (by first | exact rfl | exact ⟨trivial, rfl⟩ | (simp [br]))
theorem ends (xs : List Int) (hx : ∀ x ∈ xs, I64 x) (hlen : xs.length ≤ maxLen) : RowsOk Try.prog 5 [.slice (some ⟨0, 0, none⟩) xs.length 1] [xs.map (Value.int .i64)] (.bool true) := by
  refine rowsOk_of (E := E2 xs) mixed (calls2 xs) (lok2 xs hx hlen) (by kernel_rfl) (by simp) rfl (law_vc xs) ⟨rfl, rfl, rfl, rfl, rfl, rfl, rfl, rfl, rfl, ?_⟩
  intro s r e0 e1 h
  cases r <;> cases e0 <;> simp only [Bool.true_or, Bool.false_or, Bool.true_and, Bool.false_and] at h
  · exact br_intro (fun h => by simp at h) (fun _ => br_intro (fun h => by simp at h) (fun _ => br_intro (fun _ => ⟨trivial, rfl⟩) (fun h2 => by rw [h] at h2; simp at h2)))
  · exact br_intro (fun h => by simp at h) (fun _ => br_intro (fun _ => br_intro (fun _ => ⟨trivial, rfl⟩) (fun h2 => by rw [h] at h2; simp at h2)) (fun h => by simp at h))
  · exact br_intro (fun _ => br_intro (fun _ => ⟨trivial, rfl⟩) (fun h2 => by rw [h] at h2; simp at h2)) (fun h => by simp at h)
  · exact br_intro (fun _ => br_intro (fun _ => ⟨trivial, rfl⟩) (fun h2 => by rw [h] at h2; simp at h2)) (fun h => by simp at h)
end Go.Proofs.Ytcljhkbjpajfgaa.e
