/- The law on safe methods. No condition. -/
import Derived.Test.YthkidlkcjohppaaSy3
import Derived.Test.YthkidlkcjohppaaRows
namespace Go.Proofs.Ythkidlkcjohppaa.w
open Go Go.Ev Go.Sy Go.RowKit

def T1 (f : FuncId) (args : List Value) (h : Hp) : Option (Prop × Value × Hp) :=
  match f, args with
  | 3, [] => some (True, .bool true, h)
  | 28, [.int .i64 n, .int .i64 lo, .int .i64 hi] => some (Small lo ∧ Small hi ∧ lo ≤ hi, .int .i64 (within n lo hi), h)
  | _, _ => none
noncomputable abbrev E0 : Env := bare Try.prog
noncomputable abbrev E1 : Env := withT Try.prog T1
theorem mixed : Try.prog.follows .mixedOrders = true := by kernel_rfl
theorem within_vc (n lo hi : Int) (v : Value) : scall E0 40 28 [.int .i64 n, .int .i64 lo, .int .i64 hi] ⟨.leaf, 0⟩ (fun r => r.1 = .ret v) =
  (br (IntKind.wrap IntKind.i64 (IntKind.wrap IntKind.i64 (hi - lo) + (1 : Int)) != (0 : Int))
   (br (decide (Int.tmod n (IntKind.wrap IntKind.i64 (IntKind.wrap IntKind.i64 (hi - lo) + (1 : Int))) < (0 : Int)))
    (End.ret (Value.int IntKind.i64 (IntKind.wrap IntKind.i64 (lo + IntKind.wrap IntKind.i64 (IntKind.wrap IntKind.i64 (IntKind.wrap IntKind.i64 (Int.tmod n (IntKind.wrap IntKind.i64 (IntKind.wrap IntKind.i64 (hi - lo) + (1 : Int))) + hi) - lo) + (1 : Int))))) = End.ret v)
    (End.ret (Value.int IntKind.i64 (IntKind.wrap IntKind.i64 (lo + Int.tmod n (IntKind.wrap IntKind.i64 (IntKind.wrap IntKind.i64 (hi - lo) + (1 : Int)))))) = End.ret v))
   False) := by kernel_rfl
theorem safe_vc (m : ByteArray) (s : Int) : scall E1 100 7 [.string m, .int .i64 s] ⟨.leaf, 0⟩ (fun r => r.1 = .ret (.bool true)) =
  (br (ByteArray.toList m == ByteArray.toList (ByteArray.mk #[(71 : UInt8), (69 : UInt8), (84 : UInt8)]))
   ((Small (100 : Int) ∧ Small (599 : Int) ∧ (100 : Int) ≤ (599 : Int)) ∧
   (br (ByteArray.toList m == ByteArray.toList (ByteArray.mk #[(71 : UInt8), (69 : UInt8), (84 : UInt8)]))
    ((True) ∧
    (End.ret (Value.bool true) = End.ret (Value.bool true)))
    (br (ByteArray.toList m == ByteArray.toList (ByteArray.mk #[(72 : UInt8), (69 : UInt8), (65 : UInt8), (68 : UInt8)]))
     ((True) ∧
     (End.ret (Value.bool true) = End.ret (Value.bool true)))
     (br (ByteArray.toList m == ByteArray.toList (ByteArray.mk #[(79 : UInt8), (80 : UInt8), (84 : UInt8), (73 : UInt8), (79 : UInt8), (78 : UInt8), (83 : UInt8)]))
      ((True) ∧
      (End.ret (Value.bool true) = End.ret (Value.bool true)))
      (br (ByteArray.toList m == ByteArray.toList (ByteArray.mk #[(84 : UInt8), (82 : UInt8), (65 : UInt8), (67 : UInt8), (69 : UInt8)]))
       ((True) ∧
       (End.ret (Value.bool true) = End.ret (Value.bool true)))
       (br (decide (within s (100 : Int) (599 : Int) ≥ (200 : Int)))
        (br (decide (within s (100 : Int) (599 : Int) ≤ (399 : Int)) == false)
         ((True) ∧
         (End.ret (Value.bool true) = End.ret (Value.bool true)))
         (End.ret (Value.bool false) = End.ret (Value.bool true)))
        ((True) ∧
        (End.ret (Value.bool true) = End.ret (Value.bool true)))))))))
   (br (ByteArray.toList m == ByteArray.toList (ByteArray.mk #[(72 : UInt8), (69 : UInt8), (65 : UInt8), (68 : UInt8)]))
    ((Small (100 : Int) ∧ Small (599 : Int) ∧ (100 : Int) ≤ (599 : Int)) ∧
    (br (ByteArray.toList m == ByteArray.toList (ByteArray.mk #[(71 : UInt8), (69 : UInt8), (84 : UInt8)]))
     ((True) ∧
     (End.ret (Value.bool true) = End.ret (Value.bool true)))
     (br (ByteArray.toList m == ByteArray.toList (ByteArray.mk #[(72 : UInt8), (69 : UInt8), (65 : UInt8), (68 : UInt8)]))
      ((True) ∧
      (End.ret (Value.bool true) = End.ret (Value.bool true)))
      (br (ByteArray.toList m == ByteArray.toList (ByteArray.mk #[(79 : UInt8), (80 : UInt8), (84 : UInt8), (73 : UInt8), (79 : UInt8), (78 : UInt8), (83 : UInt8)]))
       ((True) ∧
       (End.ret (Value.bool true) = End.ret (Value.bool true)))
       (br (ByteArray.toList m == ByteArray.toList (ByteArray.mk #[(84 : UInt8), (82 : UInt8), (65 : UInt8), (67 : UInt8), (69 : UInt8)]))
        ((True) ∧
        (End.ret (Value.bool true) = End.ret (Value.bool true)))
        (br (decide (within s (100 : Int) (599 : Int) ≥ (200 : Int)))
         (br (decide (within s (100 : Int) (599 : Int) ≤ (399 : Int)) == false)
          ((True) ∧
          (End.ret (Value.bool true) = End.ret (Value.bool true)))
          (End.ret (Value.bool false) = End.ret (Value.bool true)))
         ((True) ∧
         (End.ret (Value.bool true) = End.ret (Value.bool true)))))))))
    (br (ByteArray.toList m == ByteArray.toList (ByteArray.mk #[(79 : UInt8), (80 : UInt8), (84 : UInt8), (73 : UInt8), (79 : UInt8), (78 : UInt8), (83 : UInt8)]))
     ((Small (100 : Int) ∧ Small (599 : Int) ∧ (100 : Int) ≤ (599 : Int)) ∧
     (br (ByteArray.toList m == ByteArray.toList (ByteArray.mk #[(71 : UInt8), (69 : UInt8), (84 : UInt8)]))
      ((True) ∧
      (End.ret (Value.bool true) = End.ret (Value.bool true)))
      (br (ByteArray.toList m == ByteArray.toList (ByteArray.mk #[(72 : UInt8), (69 : UInt8), (65 : UInt8), (68 : UInt8)]))
       ((True) ∧
       (End.ret (Value.bool true) = End.ret (Value.bool true)))
       (br (ByteArray.toList m == ByteArray.toList (ByteArray.mk #[(79 : UInt8), (80 : UInt8), (84 : UInt8), (73 : UInt8), (79 : UInt8), (78 : UInt8), (83 : UInt8)]))
        ((True) ∧
        (End.ret (Value.bool true) = End.ret (Value.bool true)))
        (br (ByteArray.toList m == ByteArray.toList (ByteArray.mk #[(84 : UInt8), (82 : UInt8), (65 : UInt8), (67 : UInt8), (69 : UInt8)]))
         ((True) ∧
         (End.ret (Value.bool true) = End.ret (Value.bool true)))
         (br (decide (within s (100 : Int) (599 : Int) ≥ (200 : Int)))
          (br (decide (within s (100 : Int) (599 : Int) ≤ (399 : Int)) == false)
           ((True) ∧
           (End.ret (Value.bool true) = End.ret (Value.bool true)))
           (End.ret (Value.bool false) = End.ret (Value.bool true)))
          ((True) ∧
          (End.ret (Value.bool true) = End.ret (Value.bool true)))))))))
     ((Small (100 : Int) ∧ Small (599 : Int) ∧ (100 : Int) ≤ (599 : Int)) ∧
     (br (ByteArray.toList m == ByteArray.toList (ByteArray.mk #[(71 : UInt8), (69 : UInt8), (84 : UInt8)]))
      (br (!ByteArray.toList m == ByteArray.toList (ByteArray.mk #[(84 : UInt8), (82 : UInt8), (65 : UInt8), (67 : UInt8), (69 : UInt8)]))
       (br (decide (within s (100 : Int) (599 : Int) ≥ (200 : Int)))
        (br (false == decide (within s (100 : Int) (599 : Int) < (400 : Int)))
         ((True) ∧
         (End.ret (Value.bool true) = End.ret (Value.bool true)))
         (End.ret (Value.bool false) = End.ret (Value.bool true)))
        ((True) ∧
        (End.ret (Value.bool true) = End.ret (Value.bool true))))
       ((True) ∧
       (End.ret (Value.bool true) = End.ret (Value.bool true))))
      (br (ByteArray.toList m == ByteArray.toList (ByteArray.mk #[(72 : UInt8), (69 : UInt8), (65 : UInt8), (68 : UInt8)]))
       (br (!ByteArray.toList m == ByteArray.toList (ByteArray.mk #[(84 : UInt8), (82 : UInt8), (65 : UInt8), (67 : UInt8), (69 : UInt8)]))
        (br (decide (within s (100 : Int) (599 : Int) ≥ (200 : Int)))
         (br (false == decide (within s (100 : Int) (599 : Int) < (400 : Int)))
          ((True) ∧
          (End.ret (Value.bool true) = End.ret (Value.bool true)))
          (End.ret (Value.bool false) = End.ret (Value.bool true)))
         ((True) ∧
         (End.ret (Value.bool true) = End.ret (Value.bool true))))
        ((True) ∧
        (End.ret (Value.bool true) = End.ret (Value.bool true))))
       (br (ByteArray.toList m == ByteArray.toList (ByteArray.mk #[(79 : UInt8), (80 : UInt8), (84 : UInt8), (73 : UInt8), (79 : UInt8), (78 : UInt8), (83 : UInt8)]))
        (br (!ByteArray.toList m == ByteArray.toList (ByteArray.mk #[(84 : UInt8), (82 : UInt8), (65 : UInt8), (67 : UInt8), (69 : UInt8)]))
         (br (decide (within s (100 : Int) (599 : Int) ≥ (200 : Int)))
          (br (false == decide (within s (100 : Int) (599 : Int) < (400 : Int)))
           ((True) ∧
           (End.ret (Value.bool true) = End.ret (Value.bool true)))
           (End.ret (Value.bool false) = End.ret (Value.bool true)))
          ((True) ∧
          (End.ret (Value.bool true) = End.ret (Value.bool true))))
         ((True) ∧
         (End.ret (Value.bool true) = End.ret (Value.bool true))))
        (br (ByteArray.toList m == ByteArray.toList (ByteArray.mk #[(84 : UInt8), (82 : UInt8), (65 : UInt8), (67 : UInt8), (69 : UInt8)]))
         (br (!ByteArray.toList m == ByteArray.toList (ByteArray.mk #[(84 : UInt8), (82 : UInt8), (65 : UInt8), (67 : UInt8), (69 : UInt8)]))
          (br (decide (within s (100 : Int) (599 : Int) ≥ (200 : Int)))
           (br (false == decide (within s (100 : Int) (599 : Int) < (400 : Int)))
            ((True) ∧
            (End.ret (Value.bool true) = End.ret (Value.bool true)))
            (End.ret (Value.bool false) = End.ret (Value.bool true)))
           ((True) ∧
           (End.ret (Value.bool true) = End.ret (Value.bool true))))
          ((True) ∧
          (End.ret (Value.bool true) = End.ret (Value.bool true))))
         (br (decide (within s (100 : Int) (599 : Int) ≥ (200 : Int)))
          (br (!ByteArray.toList m == ByteArray.toList (ByteArray.mk #[(84 : UInt8), (82 : UInt8), (65 : UInt8), (67 : UInt8), (69 : UInt8)]))
           (br (decide (within s (100 : Int) (599 : Int) ≥ (200 : Int)))
            (br (decide (within s (100 : Int) (599 : Int) ≤ (399 : Int)) == decide (within s (100 : Int) (599 : Int) < (400 : Int)))
             ((True) ∧
             (End.ret (Value.bool true) = End.ret (Value.bool true)))
             (End.ret (Value.bool false) = End.ret (Value.bool true)))
            (br (decide (within s (100 : Int) (599 : Int) ≤ (399 : Int)) == false)
             ((True) ∧
             (End.ret (Value.bool true) = End.ret (Value.bool true)))
             (End.ret (Value.bool false) = End.ret (Value.bool true))))
           (br (decide (within s (100 : Int) (599 : Int) ≤ (399 : Int)) == false)
            ((True) ∧
            (End.ret (Value.bool true) = End.ret (Value.bool true)))
            (End.ret (Value.bool false) = End.ret (Value.bool true))))
          (br (!ByteArray.toList m == ByteArray.toList (ByteArray.mk #[(84 : UInt8), (82 : UInt8), (65 : UInt8), (67 : UInt8), (69 : UInt8)]))
           (br (decide (within s (100 : Int) (599 : Int) ≥ (200 : Int)))
            (br (false == decide (within s (100 : Int) (599 : Int) < (400 : Int)))
             ((True) ∧
             (End.ret (Value.bool true) = End.ret (Value.bool true)))
             (End.ret (Value.bool false) = End.ret (Value.bool true)))
            ((True) ∧
            (End.ret (Value.bool true) = End.ret (Value.bool true))))
           ((True) ∧
           (End.ret (Value.bool true) = End.ret (Value.bool true))))))))))))) := by kernel_rfl

theorem within_ok (n lo hi : Int) (hlo : Small lo) (hhi : Small hi) (h : lo ≤ hi) : Flat Try.prog 28 [.int .i64 n, .int .i64 lo, .int .i64 hi] (.int .i64 (within n lo hi)) :=
  within_flat (E := E0) mixed (calls_bare _) (lok_bare _) (by kernel_rfl) within_vc n lo hi hlo hhi h

theorem runs : Flat Try.prog 3 [] (.bool true) := fun w => run_closed mixed (by kernel_rfl) (args := []) rfl rfl (show ret? (Ev.run Try.prog 1000000 3 [] ⟨.leaf, 0⟩) = some (.bool true) by kernel_rfl) w

theorem calls1 : CallsOk E1.P (oOf E1) := by
  refine calls_flat fun f a h p v h' e hp => ?_
  change T1 f a h = _ at e
  unfold T1 at e
  split at e <;> simp only [Option.some.injEq, Prod.mk.injEq, reduceCtorEq] at e <;> obtain ⟨rfl, rfl, rfl⟩ := e
  · exact ⟨rfl, rfl, rfl, runs⟩
  · exact ⟨rfl, rfl, rfl, within_ok _ _ _ hp.1 hp.2.1 hp.2.2⟩

theorem safe (m : ByteArray) (s : Int) (_ : I64 s) : Flat Try.prog 7 [.string m, .int .i64 s] (.bool true) := by
  refine flat_vc (E := E1) mixed calls1 (lok_with _ _) (by kernel_rfl) rfl rfl (safe_vc m s) ?_
  have k1 : Small 100 := by unfold Small; omega
  have k2 : Small 599 := by unfold Small; omega
  generalize within s 100 599 = k at *
  generalize (ByteArray.toList m == ByteArray.toList (ByteArray.mk #[(71 : UInt8), (69 : UInt8), (84 : UInt8)])) = b1
  generalize (ByteArray.toList m == ByteArray.toList (ByteArray.mk #[(72 : UInt8), (69 : UInt8), (65 : UInt8), (68 : UInt8)])) = b2
  generalize (ByteArray.toList m == ByteArray.toList (ByteArray.mk #[(79 : UInt8), (80 : UInt8), (84 : UInt8), (73 : UInt8), (79 : UInt8), (78 : UInt8), (83 : UInt8)])) = b3
  generalize (ByteArray.toList m == ByteArray.toList (ByteArray.mk #[(84 : UInt8), (82 : UInt8), (65 : UInt8), (67 : UInt8), (69 : UInt8)])) = b4
  by_cases c1 : 200 ≤ k <;> by_cases c2 : k < 400
  all_goals
    have c3 : (k ≤ 399) = (k < 400) := propext (by omega)
    cases b1 <;> cases b2 <;> cases b3 <;> cases b4 <;> simp [br, k1, k2, c1, c2, c3]
end Go.Proofs.Ythkidlkcjohppaa.w
