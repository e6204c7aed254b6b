/- The laws on shapes: frames of unknown types. No condition. -/
import Derived.Test.YtagahikocoggcaaSy3
import Derived.Test.YtagahikocoggcaaRows
namespace Go.Proofs.Ytagahikocoggcaa.u
open Go Go.Ev Go.Sy Go.RowKit

def T1 (f : FuncId) (args : List Value) (h : Hp) : Option (Prop × Value × Hp) :=
  match f, args with
  | 3, [] => some (True, .bool true, h)
  | 17, [.int .i64 n, .int .i64 lo, .int .i64 hi] => some (Small lo ∧ Small hi ∧ lo ≤ hi, .int .i64 (within n lo hi), h)
  | _, _ => none
noncomputable abbrev E0 : Env := bare Try.prog
/-- Code that is never reached: its condition is False. -/
def cut : FuncId → List Nat → Option Sy.Spec := fun f _ => bif Nat.beq f 20 || Nat.beq f 22 then some (fun _ _ _ _ => False) else none
noncomputable abbrev E1 : Env := { P := Try.prog, T := T1, L := cut, sy := fun r => Nat.beq r 0 }
/-- The same, no row unknown. -/
noncomputable abbrev E2 : Env := { P := Try.prog, T := T1, L := cut, sy := fun _ => false }
theorem mixed : Try.prog.follows .mixedOrders = true := by kernel_rfl
theorem within_vc (n lo hi : Int) (v : Value) : scall E0 40 17 [.int .i64 n, .int .i64 lo, .int .i64 hi] ⟨.leaf, 0⟩ (fun r => r.1 = .ret v) =
  (br (IntKind.wrap IntKind.i64 (IntKind.wrap IntKind.i64 (hi - lo) + (1 : Int)) != (0 : Int))
   (br (decide (Int.tmod n (IntKind.wrap IntKind.i64 (IntKind.wrap IntKind.i64 (hi - lo) + (1 : Int))) < (0 : Int)))
    (End.ret (Value.int IntKind.i64 (IntKind.wrap IntKind.i64 (lo + IntKind.wrap IntKind.i64 (IntKind.wrap IntKind.i64 (IntKind.wrap IntKind.i64 (Int.tmod n (IntKind.wrap IntKind.i64 (IntKind.wrap IntKind.i64 (hi - lo) + (1 : Int))) + hi) - lo) + (1 : Int))))) = End.ret v)
    (End.ret (Value.int IntKind.i64 (IntKind.wrap IntKind.i64 (lo + Int.tmod n (IntKind.wrap IntKind.i64 (IntKind.wrap IntKind.i64 (hi - lo) + (1 : Int)))))) = End.ret v))
   False) := by kernel_rfl
theorem law_vc (xs : List Int) (t f s : Int) : scall E1 60 7 [.int .i64 t, .int .i64 f, .int .i64 s, .slice (some ⟨0, 0, none⟩) xs.length 1] ⟨ofR [xs.map (Value.int .u8)] 0 .leaf, 1⟩ (fun r => r.1 = .ret (.bool true)) =
  ((Small (10 : Int) ∧ Small (255 : Int) ∧ (10 : Int) ≤ (255 : Int)) ∧
  ((Small (0 : Int) ∧ Small (255 : Int) ∧ (0 : Int) ≤ (255 : Int)) ∧
  ((Small (0 : Int) ∧ Small (2147483647 : Int) ∧ (0 : Int) ≤ (2147483647 : Int)) ∧
  (br (decide (Int.ofNat (List.length xs) > (300 : Int)))
   (br (decide ((0 : Int) ≤ ↑(0 : Nat) ∧ ↑(0 : Nat) ≤ (300 : Int) ∧ (300 : Int) ≤ ↑(List.length xs)))
    (br (decide (within t (10 : Int) (255 : Int) ≥ (0 : Int)))
     (br (decide (within t (10 : Int) (255 : Int) ≤ (255 : Int)))
      (br (decide (within f (0 : Int) (255 : Int) ≥ (0 : Int)))
       (br (decide (within f (0 : Int) (255 : Int) ≤ (255 : Int)))
        (br (decide (within s (0 : Int) (2147483647 : Int) ≥ (0 : Int)))
         (br (decide (within s (0 : Int) (2147483647 : Int) ≤ (2147483647 : Int)))
          (br (decide (within t (10 : Int) (255 : Int) > (9 : Int)))
           (br (within t (10 : Int) (255 : Int) == within t (10 : Int) (255 : Int))
            (br (within s (0 : Int) (2147483647 : Int) == within s (0 : Int) (2147483647 : Int))
             ((True) ∧
             (End.ret (Value.bool true) = End.ret (Value.bool true)))
             (End.ret (Value.bool false) = End.ret (Value.bool true)))
            (End.ret (Value.bool false) = End.ret (Value.bool true)))
           False)
          (br (within t (10 : Int) (255 : Int) == within t (10 : Int) (255 : Int))
           (br (within s (0 : Int) (2147483647 : Int) == within s (0 : Int) (2147483647 : Int))
            ((True) ∧
            (End.ret (Value.bool true) = End.ret (Value.bool true)))
            (End.ret (Value.bool false) = End.ret (Value.bool true)))
           (End.ret (Value.bool false) = End.ret (Value.bool true))))
         (br (within t (10 : Int) (255 : Int) == within t (10 : Int) (255 : Int))
          (br (within s (0 : Int) (2147483647 : Int) == within s (0 : Int) (2147483647 : Int))
           ((True) ∧
           (End.ret (Value.bool true) = End.ret (Value.bool true)))
           (End.ret (Value.bool false) = End.ret (Value.bool true)))
          (End.ret (Value.bool false) = End.ret (Value.bool true))))
        (br (within t (10 : Int) (255 : Int) == within t (10 : Int) (255 : Int))
         (br (within s (0 : Int) (2147483647 : Int) == within s (0 : Int) (2147483647 : Int))
          ((True) ∧
          (End.ret (Value.bool true) = End.ret (Value.bool true)))
          (End.ret (Value.bool false) = End.ret (Value.bool true)))
         (End.ret (Value.bool false) = End.ret (Value.bool true))))
       (br (within t (10 : Int) (255 : Int) == within t (10 : Int) (255 : Int))
        (br (within s (0 : Int) (2147483647 : Int) == within s (0 : Int) (2147483647 : Int))
         ((True) ∧
         (End.ret (Value.bool true) = End.ret (Value.bool true)))
         (End.ret (Value.bool false) = End.ret (Value.bool true)))
        (End.ret (Value.bool false) = End.ret (Value.bool true))))
      (br (within t (10 : Int) (255 : Int) == within t (10 : Int) (255 : Int))
       (br (within s (0 : Int) (2147483647 : Int) == within s (0 : Int) (2147483647 : Int))
        ((True) ∧
        (End.ret (Value.bool true) = End.ret (Value.bool true)))
        (End.ret (Value.bool false) = End.ret (Value.bool true)))
       (End.ret (Value.bool false) = End.ret (Value.bool true))))
     (br (within t (10 : Int) (255 : Int) == within t (10 : Int) (255 : Int))
      (br (within s (0 : Int) (2147483647 : Int) == within s (0 : Int) (2147483647 : Int))
       ((True) ∧
       (End.ret (Value.bool true) = End.ret (Value.bool true)))
       (End.ret (Value.bool false) = End.ret (Value.bool true)))
      (End.ret (Value.bool false) = End.ret (Value.bool true))))
    False)
   (br (decide (within t (10 : Int) (255 : Int) ≥ (0 : Int)))
    (br (decide (within t (10 : Int) (255 : Int) ≤ (255 : Int)))
     (br (decide (within f (0 : Int) (255 : Int) ≥ (0 : Int)))
      (br (decide (within f (0 : Int) (255 : Int) ≤ (255 : Int)))
       (br (decide (within s (0 : Int) (2147483647 : Int) ≥ (0 : Int)))
        (br (decide (within s (0 : Int) (2147483647 : Int) ≤ (2147483647 : Int)))
         (br (!decide (Int.ofNat (List.length xs) ≤ (16777215 : Int)))
          (br (within t (10 : Int) (255 : Int) == within t (10 : Int) (255 : Int))
           (br (within s (0 : Int) (2147483647 : Int) == within s (0 : Int) (2147483647 : Int))
            ((True) ∧
            (End.ret (Value.bool true) = End.ret (Value.bool true)))
            (End.ret (Value.bool false) = End.ret (Value.bool true)))
           (End.ret (Value.bool false) = End.ret (Value.bool true)))
          (br (decide (within t (10 : Int) (255 : Int) > (9 : Int)))
           (br (within t (10 : Int) (255 : Int) == within t (10 : Int) (255 : Int))
            (br (within s (0 : Int) (2147483647 : Int) == within s (0 : Int) (2147483647 : Int))
             ((True) ∧
             (End.ret (Value.bool true) = End.ret (Value.bool true)))
             (End.ret (Value.bool false) = End.ret (Value.bool true)))
            (End.ret (Value.bool false) = End.ret (Value.bool true)))
           False))
         (br (within t (10 : Int) (255 : Int) == within t (10 : Int) (255 : Int))
          (br (within s (0 : Int) (2147483647 : Int) == within s (0 : Int) (2147483647 : Int))
           ((True) ∧
           (End.ret (Value.bool true) = End.ret (Value.bool true)))
           (End.ret (Value.bool false) = End.ret (Value.bool true)))
          (End.ret (Value.bool false) = End.ret (Value.bool true))))
        (br (within t (10 : Int) (255 : Int) == within t (10 : Int) (255 : Int))
         (br (within s (0 : Int) (2147483647 : Int) == within s (0 : Int) (2147483647 : Int))
          ((True) ∧
          (End.ret (Value.bool true) = End.ret (Value.bool true)))
          (End.ret (Value.bool false) = End.ret (Value.bool true)))
         (End.ret (Value.bool false) = End.ret (Value.bool true))))
       (br (within t (10 : Int) (255 : Int) == within t (10 : Int) (255 : Int))
        (br (within s (0 : Int) (2147483647 : Int) == within s (0 : Int) (2147483647 : Int))
         ((True) ∧
         (End.ret (Value.bool true) = End.ret (Value.bool true)))
         (End.ret (Value.bool false) = End.ret (Value.bool true)))
        (End.ret (Value.bool false) = End.ret (Value.bool true))))
      (br (within t (10 : Int) (255 : Int) == within t (10 : Int) (255 : Int))
       (br (within s (0 : Int) (2147483647 : Int) == within s (0 : Int) (2147483647 : Int))
        ((True) ∧
        (End.ret (Value.bool true) = End.ret (Value.bool true)))
        (End.ret (Value.bool false) = End.ret (Value.bool true)))
       (End.ret (Value.bool false) = End.ret (Value.bool true))))
     (br (within t (10 : Int) (255 : Int) == within t (10 : Int) (255 : Int))
      (br (within s (0 : Int) (2147483647 : Int) == within s (0 : Int) (2147483647 : Int))
       ((True) ∧
       (End.ret (Value.bool true) = End.ret (Value.bool true)))
       (End.ret (Value.bool false) = End.ret (Value.bool true)))
      (End.ret (Value.bool false) = End.ret (Value.bool true))))
    (br (within t (10 : Int) (255 : Int) == within t (10 : Int) (255 : Int))
     (br (within s (0 : Int) (2147483647 : Int) == within s (0 : Int) (2147483647 : Int))
      ((True) ∧
      (End.ret (Value.bool true) = End.ret (Value.bool true)))
      (End.ret (Value.bool false) = End.ret (Value.bool true)))
     (End.ret (Value.bool false) = End.ret (Value.bool true)))))))) := by kernel_rfl
theorem nil_vc (t f s : Int) : scall E2 60 7 [.int .i64 t, .int .i64 f, .int .i64 s, .slice none 0 0] ⟨.leaf, 0⟩ (fun r => r.1 = .ret (.bool true)) =
  ((Small (10 : Int) ∧ Small (255 : Int) ∧ (10 : Int) ≤ (255 : Int)) ∧
  ((Small (0 : Int) ∧ Small (255 : Int) ∧ (0 : Int) ≤ (255 : Int)) ∧
  ((Small (0 : Int) ∧ Small (2147483647 : Int) ∧ (0 : Int) ≤ (2147483647 : Int)) ∧
  (br (decide (within t (10 : Int) (255 : Int) ≥ (0 : Int)))
   (br (decide (within t (10 : Int) (255 : Int) ≤ (255 : Int)))
    (br (decide (within f (0 : Int) (255 : Int) ≥ (0 : Int)))
     (br (decide (within f (0 : Int) (255 : Int) ≤ (255 : Int)))
      (br (decide (within s (0 : Int) (2147483647 : Int) ≥ (0 : Int)))
       (br (decide (within s (0 : Int) (2147483647 : Int) ≤ (2147483647 : Int)))
        (br (decide (within t (10 : Int) (255 : Int) > (9 : Int)))
         (br (within t (10 : Int) (255 : Int) == within t (10 : Int) (255 : Int))
          (br (within s (0 : Int) (2147483647 : Int) == within s (0 : Int) (2147483647 : Int))
           ((True) ∧
           (End.ret (Value.bool true) = End.ret (Value.bool true)))
           (End.ret (Value.bool false) = End.ret (Value.bool true)))
          (End.ret (Value.bool false) = End.ret (Value.bool true)))
         False)
        (br (within t (10 : Int) (255 : Int) == within t (10 : Int) (255 : Int))
         (br (within s (0 : Int) (2147483647 : Int) == within s (0 : Int) (2147483647 : Int))
          ((True) ∧
          (End.ret (Value.bool true) = End.ret (Value.bool true)))
          (End.ret (Value.bool false) = End.ret (Value.bool true)))
         (End.ret (Value.bool false) = End.ret (Value.bool true))))
       (br (within t (10 : Int) (255 : Int) == within t (10 : Int) (255 : Int))
        (br (within s (0 : Int) (2147483647 : Int) == within s (0 : Int) (2147483647 : Int))
         ((True) ∧
         (End.ret (Value.bool true) = End.ret (Value.bool true)))
         (End.ret (Value.bool false) = End.ret (Value.bool true)))
        (End.ret (Value.bool false) = End.ret (Value.bool true))))
      (br (within t (10 : Int) (255 : Int) == within t (10 : Int) (255 : Int))
       (br (within s (0 : Int) (2147483647 : Int) == within s (0 : Int) (2147483647 : Int))
        ((True) ∧
        (End.ret (Value.bool true) = End.ret (Value.bool true)))
        (End.ret (Value.bool false) = End.ret (Value.bool true)))
       (End.ret (Value.bool false) = End.ret (Value.bool true))))
     (br (within t (10 : Int) (255 : Int) == within t (10 : Int) (255 : Int))
      (br (within s (0 : Int) (2147483647 : Int) == within s (0 : Int) (2147483647 : Int))
       ((True) ∧
       (End.ret (Value.bool true) = End.ret (Value.bool true)))
       (End.ret (Value.bool false) = End.ret (Value.bool true)))
      (End.ret (Value.bool false) = End.ret (Value.bool true))))
    (br (within t (10 : Int) (255 : Int) == within t (10 : Int) (255 : Int))
     (br (within s (0 : Int) (2147483647 : Int) == within s (0 : Int) (2147483647 : Int))
      ((True) ∧
      (End.ret (Value.bool true) = End.ret (Value.bool true)))
      (End.ret (Value.bool false) = End.ret (Value.bool true)))
     (End.ret (Value.bool false) = End.ret (Value.bool true))))
   (br (within t (10 : Int) (255 : Int) == within t (10 : Int) (255 : Int))
    (br (within s (0 : Int) (2147483647 : Int) == within s (0 : Int) (2147483647 : Int))
     ((True) ∧
     (End.ret (Value.bool true) = End.ret (Value.bool true)))
     (End.ret (Value.bool false) = End.ret (Value.bool true)))
    (End.ret (Value.bool false) = End.ret (Value.bool true))))))) := by kernel_rfl

theorem within_ok (n lo hi : Int) (hlo : Small lo) (hhi : Small hi) (h : lo ≤ hi) : Flat Try.prog 17 [.int .i64 n, .int .i64 lo, .int .i64 hi] (.int .i64 (within n lo hi)) :=
  within_flat (E := E0) mixed (calls_bare _) (lok_bare _) (by kernel_rfl) within_vc n lo hi hlo hhi h

theorem runs : Flat Try.prog 3 [] (.bool true) := fun w => run_closed mixed (by kernel_rfl) (args := []) rfl rfl (show ret? (Ev.run Try.prog 1000000 3 [] ⟨.leaf, 0⟩) = some (.bool true) by kernel_rfl) w

theorem calls1 : CallsOk E1.P (oOf E1) := by
  refine calls_flat fun f a h p v h' e hp => ?_
  change T1 f a h = _ at e
  unfold T1 at e
  split at e <;> simp only [Option.some.injEq, Prod.mk.injEq, reduceCtorEq] at e <;> obtain ⟨rfl, rfl, rfl⟩ := e
  · exact ⟨rfl, rfl, rfl, runs⟩
  · exact ⟨rfl, rfl, rfl, within_ok _ _ _ hp.1 hp.2.1 hp.2.2⟩
theorem cut_no {f : FuncId} {p : List Nat} {spec : Sy.Spec} (h : cut f p = some spec) : spec = fun _ _ _ _ => False := by
  unfold cut at h
  cases hq : (Nat.beq f 20 || Nat.beq f 22) with
  | false => rw [hq] at h; simp at h
  | true => rw [hq] at h; simp only [cond_true, Option.some.injEq] at h; exact h.symm
theorem lok1 : LOk E1 := by
  intro f p spec fn c0 c hl hf hb hc fr u h K hs
  rw [cut_no (f := f) (p := p) hl] at hs; exact hs.elim
theorem lok2 : LOk E2 := by
  intro f p spec fn c0 c hl hf hb hc fr u h K hs
  rw [cut_no (f := f) (p := p) hl] at hs; exact hs.elim
theorem k10 : Small 10 := by unfold Small; omega
theorem k0 : Small 0 := by unfold Small; omega
theorem k255 : Small 255 := by unfold Small; omega
theorem kmax : Small 2147483647 := by unfold Small; omega

theorem unknown_nil (t f s : Int) (_ : I64 t) (_ : I64 f) (_ : I64 s) : Flat Try.prog 7 [.int .i64 t, .int .i64 f, .int .i64 s, .slice none 0 0] (.bool true) := by
  refine flat_vc (E := E2) mixed (show CallsOk E2.P (oOf E2) from calls1) lok2 (by kernel_rfl) rfl rfl (nil_vc t f s) ⟨⟨k10, k255, by omega⟩, ⟨k0, k255, by omega⟩, ⟨k0, kmax, by omega⟩, ?_⟩
  have h1 := within_bd t 10 255 (by omega)
  have h2 := within_bd f 0 255 (by omega)
  have h3 := within_bd s 0 2147483647 (by omega)
  generalize within t 10 255 = t at *
  generalize within f 0 255 = f at *
  generalize within s 0 2147483647 = s at *
  (repeat' (refine br_intro (fun h => ?_) (fun h => ?_))) <;> first | exact ⟨trivial, rfl⟩ | (exfalso; simp at * <;> omega)

theorem unknown (xs : List Int) (t f s : Int) (_ : ∀ x ∈ xs, (Lit.int .u8 x).wf = true) (_ : xs.length ≤ maxLen) (_ : I64 t) (_ : I64 f) (_ : I64 s) : RowsOk Try.prog 7 [.int .i64 t, .int .i64 f, .int .i64 s, .slice (some ⟨0, 0, none⟩) xs.length 1] [xs.map (Value.int .u8)] (.bool true) := by
  refine rowsOk_of (E := E1) mixed calls1 lok1 (by kernel_rfl) (by simp) rfl (law_vc xs t f s) ⟨⟨k10, k255, by omega⟩, ⟨k0, k255, by omega⟩, ⟨k0, kmax, by omega⟩, ?_⟩
  have h1 := within_bd t 10 255 (by omega)
  have h2 := within_bd f 0 255 (by omega)
  have h3 := within_bd s 0 2147483647 (by omega)
  generalize within t 10 255 = t at *
  generalize within f 0 255 = f at *
  generalize within s 0 2147483647 = s at *
  (repeat' (refine br_intro (fun h => ?_) (fun h => ?_))) <;> first | exact ⟨trivial, rfl⟩ | (exfalso; simp at * <;> omega)
end Go.Proofs.Ytagahikocoggcaa.u
