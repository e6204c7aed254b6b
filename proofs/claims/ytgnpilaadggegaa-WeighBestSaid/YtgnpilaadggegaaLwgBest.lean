/- The best of some numbers. -/
import Derived.Test.YtgnpilaadggegaaSz9
import Derived.Test.YtgnpilaadggegaaRows
import Derived.Test.YtgnpilaadggegaaLlawWg
set_option linter.unusedSimpArgs false
set_option linter.unusedVariables false
namespace Go.Proofs.Ytgnpilaadggegaa.fl
open Go Go.Ev Go.Sy Go.RowKit Go.Proofs.Ytgnpilaadggegaa.gl
def enN (b : Nat) : List Value := [.float .f64 b]
/-- The best of the first ones. -/
def bestF (l : List Nat) : Nat → Int
  | 0 => -1
  | i + 1 => if bestF l i < 0 ∨ 0 < ck (l.getD i 0) (l.getD (bestF l i).toNat 0) then (i : Nat) else bestF l i
def decN (c : List Value) : List Nat := c.map fun v => match v with | .float _ b => b | _ => 0
theorem best_ex (c : List Value) : ∃ k : Int, k = bestF (decN c) (decN c).length := ⟨_, rfl⟩
noncomputable def bestR (r : Row) : Int := Classical.choose (best_ex r.cells)
def IsN (r : Row) (n : Nat) : Prop := ∃ l : List Nat, r = gRo enN l ∧ n = l.length
structure GBe where
  l : List Nat
def pBe : List Nat := [0, 1, 0, 1, 1]
def slBe (g : GBe) (i : Nat × Int) : List (Nat × Value) := [(0, .slice (some ⟨0, 0, none⟩) g.l.length 1), (3, .int .i64 i.2), (6, .slice (some ⟨0, 0, none⟩) g.l.length 1), (7, .int .i64 (g.l.length : Nat)), (8, .int .i64 (i.1 : Nat))]
def rlBe (g : GBe) (_ : Nat × Int) : List (Nat × Row) := [(0, gRo enN g.l)]
noncomputable def bestL (l : List Nat) : Int := bestR (gRo enN l)
noncomputable def wsBe (g : GBe) : List (Gate Unit) := [⟨.exit 0, fun _ => True, fun _ => [(3, .int .i64 (bestL g.l))], fun _ => [(0, gRo enN g.l)], 1⟩]
noncomputable def specBe : Sy.Spec := specOf 1 1 27 (fun g : GBe => g.l.length ≤ maxLen) (fun g => slBe g (0, -1)) (fun g => rlBe g (0, -1)) wsBe
noncomputable def mBe := mOf [(20, pBe, specBe)]
noncomputable def eBe : EntM := entC 20 fun a r => match a, r with
  | [.slice (some ⟨0, 0, none⟩) n 1], [r] => some (IsN r n ∧ n ≤ maxLen, .int .i64 (bestR r), [])
  | _, _ => none
noncomputable def tBe : List EntM := [eRuns, eCk, eRck, eBe]
noncomputable abbrev EtBe : Env := envT Try.prog tBe
/-- None is above the best; the earlier ones are below it. -/
def Top (l : List Nat) (n : Nat) (k : Int) : Prop := 0 ≤ k ∧ k < n ∧ ∀ j, j < n → ck (l.getD j 0) (l.getD k.toNat 0) ≤ 0 ∧ ((j : Int) < k → ck (l.getD j 0) (l.getD k.toNat 0) ≠ 0)
structure GLb where
  l : List Nat
  n : Nat
  k : Int
def pLb : List Nat := [0, 1, 0, 1, 1, 1, 1, 1]
def slLb (g : GLb) (i : Nat) : List (Nat × Value) := [(0, .slice (some ⟨0, 0, none⟩) g.n 1), (3, .int .i64 g.k), (4, .int .i64 (i : Nat))]
def rlLb (g : GLb) (_ : Nat) : List (Nat × Row) := [(0, gRo enN g.l)]
def wsLb (g : GLb) : List (Gate Unit) := [⟨.exit 0, fun _ => True, fun _ => [], fun _ => [(0, gRo enN g.l)], 1⟩]
def specLb : Sy.Spec := specOf 1 1 56 (fun g : GLb => g.n ≤ 60 ∧ g.n ≤ g.l.length ∧ Top g.l g.n g.k) (fun g => slLb g 0) (fun g => rlLb g 0) wsLb
def mLb := mOf [(7, pLb, specLb)]
theorem be_round (g : GBe) (i : Nat × Int) (Inv : Nat × Int → Prop) (m : Nat × Int → Nat) : mev EtWg noM 60 20 (0 :: pBe) false (codeOf Try.prog 20 (0 :: pBe)) ⟨mkOv (slBe g i), 27, []⟩ none ⟨mkR (rlBe g i), 1⟩ (roundK 1 1 27 Inv m (slBe g) (rlBe g) (wsBe g) i) =
  (br (decide ((↑i.1 : Int) < (↑(List.length g.1) : Int)))
   (br (decide ((0 : Int) ≤ (↑i.1 : Int) ∧ (↑i.1 : Int) < (↑(List.length g.1) : Int)))
    ((Eq (α := Option Value) ((gC enN g.1)[(0 : Nat) + Int.toNat (↑i.1 : Int) * (1 : Nat)]?) (some (Value.float FloatKind.f64 (cellF (gC enN g.1) ((0 : Nat) + Int.toNat (↑i.1 : Int) * (1 : Nat)))))) ∧
    (br (decide (i.2 < (0 : Int)))
     (∃ j : Nat × Int, ((Inv j) ∧
     ((m j < m i) ∧
     (((0 : Nat) = (0 : Nat)) ∧
     ((List.length g.1 = List.length g.1) ∧
     ((j.2 = (↑i.1 : Int)) ∧
     (((0 : Nat) = (0 : Nat)) ∧
     ((List.length g.1 = List.length g.1) ∧
     (((↑(List.length g.1) : Int) = (↑(List.length g.1) : Int)) ∧
     (((↑j.1 : Int) = IntKind.wrap IntKind.i64 ((↑i.1 : Int) + (1 : Int))) ∧
     ((Eq (α := List Value) (gC enN g.1) (gC enN g.1)) ∧
     ((Plain (gC enN g.1)) ∧
     True))))))))))))
     (br (decide ((0 : Int) ≤ i.2 ∧ i.2 < (↑(List.length g.1) : Int)))
      ((Eq (α := Option Value) ((gC enN g.1)[(0 : Nat) + Int.toNat i.2 * (1 : Nat)]?) (some (Value.float FloatKind.f64 (cellF (gC enN g.1) ((0 : Nat) + Int.toNat i.2 * (1 : Nat)))))) ∧
      ((((True ∧ (True ∧ True)) ∧ (True ∧ (True ∧ True)))) ∧
      (br (decide (ck (cellF (gC enN g.1) ((0 : Nat) + Int.toNat (↑i.1 : Int) * (1 : Nat))) (cellF (gC enN g.1) ((0 : Nat) + Int.toNat i.2 * (1 : Nat))) > (0 : Int)))
       (∃ j : Nat × Int, ((Inv j) ∧
       ((m j < m i) ∧
       (((0 : Nat) = (0 : Nat)) ∧
       ((List.length g.1 = List.length g.1) ∧
       ((j.2 = (↑i.1 : Int)) ∧
       (((0 : Nat) = (0 : Nat)) ∧
       ((List.length g.1 = List.length g.1) ∧
       (((↑(List.length g.1) : Int) = (↑(List.length g.1) : Int)) ∧
       (((↑j.1 : Int) = IntKind.wrap IntKind.i64 ((↑i.1 : Int) + (1 : Int))) ∧
       ((Eq (α := List Value) (gC enN g.1) (gC enN g.1)) ∧
       ((Plain (gC enN g.1)) ∧
       True))))))))))))
       (∃ j : Nat × Int, ((Inv j) ∧
       ((m j < m i) ∧
       (((0 : Nat) = (0 : Nat)) ∧
       ((List.length g.1 = List.length g.1) ∧
       ((j.2 = i.2) ∧
       (((0 : Nat) = (0 : Nat)) ∧
       ((List.length g.1 = List.length g.1) ∧
       (((↑(List.length g.1) : Int) = (↑(List.length g.1) : Int)) ∧
       (((↑j.1 : Int) = IntKind.wrap IntKind.i64 ((↑i.1 : Int) + (1 : Int))) ∧
       ((Eq (α := List Value) (gC enN g.1) (gC enN g.1)) ∧
       ((Plain (gC enN g.1)) ∧
       True)))))))))))))))
      False)))
    False)
   (∃ y : Unit, ((True) ∧
   ((bestL g.1 = i.2) ∧
   ((Eq (α := List Value) (gC enN g.1) (gC enN g.1)) ∧
   ((Plain (gC enN g.1)) ∧
   True)))))) := by kernel_rfl
theorem be_vc (l : List Nat) (v : Int) : mcall EtWg mBe 60 20 [.slice (some ⟨0, 0, none⟩) l.length 1] ⟨mkR (nums 0 [gRo enN l]), 1⟩ (retIs 1 (.int .i64 v) [gRo enN l]) =
  (∃ g : GBe, ((List.length g.1 ≤ (9223372036854775807 : Nat)) ∧
  (((0 : Nat) = (0 : Nat)) ∧
  ((List.length g.1 = List.length l) ∧
  (((-1 : Int) = (-1 : Int)) ∧
  (((0 : Nat) = (0 : Nat)) ∧
  ((List.length g.1 = List.length l) ∧
  (((↑(List.length g.1) : Int) = Int.ofNat (List.length l)) ∧
  (((0 : Int) = (0 : Int)) ∧
  ((Eq (α := List Value) (gC enN g.1) (gC enN l)) ∧
  ((Plain (gC enN g.1)) ∧
  (∀ (y : Unit), ((True) →
  ((v = bestL g.1) ∧
  ((Eq (α := List Value) (gC enN l) (gC enN g.1)) ∧
  ((Plain (gC enN l)) ∧
  True)))))))))))))))) := by kernel_rfl
theorem lb_round (g : GLb) (i : Nat) (Inv : Nat → Prop) (m : Nat → Nat) : mev EtBe noM 60 7 (0 :: pLb) false (codeOf Try.prog 7 (0 :: pLb)) ⟨mkOv (slLb g i), 56, []⟩ none ⟨mkR (rlLb g i), 1⟩ (roundK 1 1 56 Inv m (slLb g) (rlLb g) (wsLb g) i) =
  (br (decide ((↑i : Int) < Int.ofNat g.2))
   (br (decide ((0 : Int) ≤ (↑i : Int) ∧ (↑i : Int) < (↑g.2 : Int)))
    ((Eq (α := Option Value) ((gC enN g.1)[(0 : Nat) + Int.toNat (↑i : Int) * (1 : Nat)]?) (some (Value.float FloatKind.f64 (cellF (gC enN g.1) ((0 : Nat) + Int.toNat (↑i : Int) * (1 : Nat)))))) ∧
    (br (decide ((0 : Int) ≤ g.3 ∧ g.3 < (↑g.2 : Int)))
     ((Eq (α := Option Value) ((gC enN g.1)[(0 : Nat) + Int.toNat g.3 * (1 : Nat)]?) (some (Value.float FloatKind.f64 (cellF (gC enN g.1) ((0 : Nat) + Int.toNat g.3 * (1 : Nat)))))) ∧
     ((((True ∧ (True ∧ True)) ∧ (True ∧ (True ∧ True)))) ∧
     ((Eq (α := Option Value) ((gC enN g.1)[(0 : Nat) + Int.toNat (↑i : Int) * (1 : Nat)]?) (some (Value.float FloatKind.f64 (cellF (gC enN g.1) ((0 : Nat) + Int.toNat (↑i : Int) * (1 : Nat)))))) ∧
     ((Value.float FloatKind.f64 (cellF (gC enN g.1) ((0 : Nat) + Int.toNat (↑i : Int) * (1 : Nat))) = Value.float FloatKind.f64 (cellF (gC enN g.1) ((0 : Nat) + Int.toNat (↑i : Int) * (1 : Nat)))) ∧
     ((Eq (α := Option Value) ((gC enN g.1)[(0 : Nat) + Int.toNat g.3 * (1 : Nat)]?) (some (Value.float FloatKind.f64 (cellF (gC enN g.1) ((0 : Nat) + Int.toNat g.3 * (1 : Nat)))))) ∧
     ((Value.float FloatKind.f64 (cellF (gC enN g.1) ((0 : Nat) + Int.toNat g.3 * (1 : Nat))) = Value.float FloatKind.f64 (cellF (gC enN g.1) ((0 : Nat) + Int.toNat g.3 * (1 : Nat)))) ∧
     (br (decide (ck (cellF (gC enN g.1) ((0 : Nat) + Int.toNat (↑i : Int) * (1 : Nat))) (cellF (gC enN g.1) ((0 : Nat) + Int.toNat g.3 * (1 : Nat))) > (0 : Int)))
      False
      (br (ck (cellF (gC enN g.1) ((0 : Nat) + Int.toNat (↑i : Int) * (1 : Nat))) (cellF (gC enN g.1) ((0 : Nat) + Int.toNat g.3 * (1 : Nat))) == (0 : Int))
       (br (decide ((↑i : Int) < g.3))
        False
        (∃ j : Nat, ((Inv j) ∧
        ((m j < m i) ∧
        (((0 : Nat) = (0 : Nat)) ∧
        ((g.2 = g.2) ∧
        ((g.3 = g.3) ∧
        (((↑j : Int) = IntKind.wrap IntKind.i64 ((↑i : Int) + (1 : Int))) ∧
        ((Eq (α := List Value) (gC enN g.1) (gC enN g.1)) ∧
        ((Plain (gC enN g.1)) ∧
        True))))))))))
       (∃ j : Nat, ((Inv j) ∧
       ((m j < m i) ∧
       (((0 : Nat) = (0 : Nat)) ∧
       ((g.2 = g.2) ∧
       ((g.3 = g.3) ∧
       (((↑j : Int) = IntKind.wrap IntKind.i64 ((↑i : Int) + (1 : Int))) ∧
       ((Eq (α := List Value) (gC enN g.1) (gC enN g.1)) ∧
       ((Plain (gC enN g.1)) ∧
       True)))))))))))))))))
     False))
    False)
   (∃ y : Unit, ((True) ∧
   ((Eq (α := List Value) (gC enN g.1) (gC enN g.1)) ∧
   ((Plain (gC enN g.1)) ∧
   True))))) := by kernel_rfl
theorem lb_vc (l : List Nat) : mcall EtBe mLb 60 7 [.slice (some ⟨0, 0, none⟩) l.length 1] ⟨mkR (nums 0 [gRo enN l]), 1⟩ (retIs 1 (.bool true) [gRo enN l]) =
  (br (decide (Int.ofNat (List.length l) > (60 : Int)))
   (br (decide ((0 : Int) ≤ (↑(0 : Nat) : Int) ∧ (↑(0 : Nat) : Int) ≤ (60 : Int) ∧ (60 : Int) ≤ (↑(List.length l) : Int)))
    ((((((60 : Nat) ≤ List.length (gC enN l) ∧ Plain (List.take (60 : Nat) (List.drop (0 : Nat) (gC enN l)))) ∧ True) ∧ ((True ∧ True) ∧ (True ∧ (IsN (Row.mk (List.take (60 : Nat) (List.drop (0 : Nat) (gC enN l))) true (Ob.cells true)) (60 : Nat) ∧ Int.toNat (60 : Int) - Int.toNat (↑(0 : Nat) : Int) ≤ maxLen))))) ∧
    (br (decide (bestR (Row.mk (List.take (60 : Nat) (List.drop (0 : Nat) (gC enN l))) true (Ob.cells true)) < (0 : Int)))
     ((true = false) ∧
     ((Eq (α := List Value) (gC enN l) (gC enN l)) ∧
     ((Plain (gC enN l)) ∧
     True)))
     (br (decide (bestR (Row.mk (List.take (60 : Nat) (List.drop (0 : Nat) (gC enN l))) true (Ob.cells true)) ≥ (60 : Int)))
      ((true = false) ∧
      ((Eq (α := List Value) (gC enN l) (gC enN l)) ∧
      ((Plain (gC enN l)) ∧
      True)))
      (∃ g : GLb, ((g.2 ≤ (60 : Nat) ∧ g.2 ≤ List.length g.1 ∧ Top g.1 g.2 g.3) ∧
      (((0 : Nat) = (0 : Nat)) ∧
      ((g.2 = (60 : Nat)) ∧
      ((g.3 = bestR (Row.mk (List.take (60 : Nat) (List.drop (0 : Nat) (gC enN l))) true (Ob.cells true))) ∧
      (((0 : Int) = (0 : Int)) ∧
      ((Eq (α := List Value) (gC enN g.1) (gC enN l)) ∧
      ((Plain (gC enN g.1)) ∧
      (∀ (y : Unit), ((True) →
      (((True ∧ (True ∧ (True ∧ True)))) ∧
      ((true = true) ∧
      ((Eq (α := List Value) (gC enN l) (gC enN g.1)) ∧
      ((Plain (gC enN l)) ∧
      True)))))))))))))))))
    False)
   ((((((0 : Nat) + List.length l * (1 : Nat) ≤ List.length (gC enN l) ∧ Plain (List.take (List.length l * (1 : Nat)) (List.drop (0 : Nat) (gC enN l)))) ∧ True) ∧ ((True ∧ True) ∧ (True ∧ (IsN (Row.mk (List.take (List.length l * (1 : Nat)) (List.drop (0 : Nat) (gC enN l))) true (Ob.cells true)) (List.length l) ∧ List.length l ≤ (9223372036854775807 : Nat)))))) ∧
   (br (Int.ofNat (List.length l) == (0 : Int))
    (br (bestR (Row.mk (List.take (List.length l * (1 : Nat)) (List.drop (0 : Nat) (gC enN l))) true (Ob.cells true)) == (-1 : Int))
     (((True ∧ (True ∧ (True ∧ True)))) ∧
     ((true = true) ∧
     ((Eq (α := List Value) (gC enN l) (gC enN l)) ∧
     ((Plain (gC enN l)) ∧
     True))))
     ((true = false) ∧
     ((Eq (α := List Value) (gC enN l) (gC enN l)) ∧
     ((Plain (gC enN l)) ∧
     True))))
    (br (decide (bestR (Row.mk (List.take (List.length l * (1 : Nat)) (List.drop (0 : Nat) (gC enN l))) true (Ob.cells true)) < (0 : Int)))
     ((true = false) ∧
     ((Eq (α := List Value) (gC enN l) (gC enN l)) ∧
     ((Plain (gC enN l)) ∧
     True)))
     (br (decide (bestR (Row.mk (List.take (List.length l * (1 : Nat)) (List.drop (0 : Nat) (gC enN l))) true (Ob.cells true)) ≥ Int.ofNat (List.length l)))
      ((true = false) ∧
      ((Eq (α := List Value) (gC enN l) (gC enN l)) ∧
      ((Plain (gC enN l)) ∧
      True)))
      (∃ g : GLb, ((g.2 ≤ (60 : Nat) ∧ g.2 ≤ List.length g.1 ∧ Top g.1 g.2 g.3) ∧
      (((0 : Nat) = (0 : Nat)) ∧
      ((g.2 = List.length l) ∧
      ((g.3 = bestR (Row.mk (List.take (List.length l * (1 : Nat)) (List.drop (0 : Nat) (gC enN l))) true (Ob.cells true))) ∧
      (((0 : Int) = (0 : Int)) ∧
      ((Eq (α := List Value) (gC enN g.1) (gC enN l)) ∧
      ((Plain (gC enN g.1)) ∧
      (∀ (y : Unit), ((True) →
      (((True ∧ (True ∧ (True ∧ True)))) ∧
      ((true = true) ∧
      ((Eq (α := List Value) (gC enN l) (gC enN g.1)) ∧
      ((Plain (gC enN l)) ∧
      True))))))))))))))))))) := by kernel_rfl
theorem enN_k (a : Nat) : (enN a).length = 1 := rfl
theorem enN_p (a : Nat) : Plain (enN a) := by intro v hv; simp [enN] at hv; subst hv; rfl
theorem nLen (l : List Nat) : (gC enN l).length = l.length := by have := gC_len enN_k l; omega
theorem nPl (l : List Nat) : Plain (gC enN l) := gC_plain enN_p l
theorem nGet (l : List Nat) (i : Nat) (h : i < l.length) : (gC enN l)[i]? = some (.float .f64 (l.getD i 0)) ∧ cellF (gC enN l) i = l.getD i 0 := by
  have h0 := gC_get0 enN_k l i h (by omega)
  rw [Nat.mul_one] at h0
  have h2 : l.getD i 0 = l[i] := by simp [List.getD, List.getElem?_eq_getElem h]
  have h1 : (gC enN l)[i]? = some (.float .f64 (l.getD i 0)) := by rw [h0, h2]; rfl
  exact ⟨h1, by unfold cellF; rw [h1]⟩
theorem nTake (l : List Nat) (n : Nat) : (gC enN l).take n = gC enN (l.take n) := by have := gC_take enN_k l n; rwa [Nat.mul_one] at this
theorem decN_gC (l : List Nat) : decN (gC enN l) = l := by
  induction l with
  | nil => rfl
  | cons a l ih => show a :: decN (gC enN l) = _; rw [ih]
theorem bestR_eq (r : Row) : bestR r = bestF (decN r.cells) (decN r.cells).length := Classical.choose_spec (best_ex r.cells)
theorem bestR_mk (l : List Nat) (b : Bool) (o : Ob) : bestR ⟨gC enN l, b, o⟩ = bestF l l.length := by rw [bestR_eq]; simp only; rw [decN_gC]
theorem q_f {Q : Nat → Prop} {n : Nat} {cells : List Value} (h : ElemsQ Q [.f .f64] n cells) : ∃ l : List Nat, l.length = n ∧ cells = gC enN l ∧ ∀ a ∈ l, True := by
  obtain ⟨l, h1, h2, h3⟩ := h.data (α := Nat) enN (fun a => True) (fun c hc => by
    match c, hc with
    | [x], hc =>
      obtain ⟨c1, _⟩ := hc
      obtain ⟨s, rfl⟩ := cq_f c1
      exact ⟨s, rfl, trivial⟩)
  exact ⟨l, h1, h2, h3⟩
/-- The order, by class and size. -/
theorem ck_iff (a b : Nat) : (ck a b ≤ 0 ↔ ¬ (rk b < rk a ∨ (rk a = rk b ∧ fv b < fv a))) ∧ (ck a b = 0 ↔ rk a = rk b ∧ fv a = fv b) := by
  unfold ck
  generalize rk a = x
  generalize rk b = y
  constructor <;> split <;> (try split) <;> omega
theorem best_top (l : List Nat) : ∀ i, i ≤ l.length → (i = 0 ∧ bestF l i = -1) ∨ (0 < i ∧ Top l i (bestF l i)) := by
  intro i
  induction i with
  | zero => intro _; exact .inl ⟨rfl, rfl⟩
  | succ i ih =>
    intro h
    refine .inr ⟨by omega, ?_⟩
    unfold bestF
    rcases ih (by omega) with ⟨h0, h1⟩ | ⟨h0, h1, h2, h3⟩
    · subst h0
      rw [if_pos (.inl (by omega))]
      refine ⟨by omega, by omega, fun j hj => ?_⟩
      have : j = 0 := by omega
      subst this
      refine ⟨?_, by omega⟩
      show ck (l.getD 0 0) (l.getD 0 0) ≤ 0
      rw [ck_self]; exact Int.le_refl _
    · generalize bestF l i = k at *
      split
      · rename_i c
        have c : 0 < ck (l.getD i 0) (l.getD k.toNat 0) := by omega
        have e : ((i : Nat) : Int).toNat = i := by omega
        refine ⟨by omega, by omega, fun j hj => ?_⟩
        rw [e]
        by_cases hji : j = i
        · subst hji; rw [ck_self]; exact ⟨Int.le_refl _, by omega⟩
        · have a1 := (h3 j (by omega)).1
          have q1 := (ck_iff (l.getD j 0) (l.getD k.toNat 0)).1.1 a1
          have q2 := mt (ck_iff (l.getD i 0) (l.getD k.toNat 0)).1.2 (by omega)
          constructor
          · rw [(ck_iff _ _).1]; omega
          · intro _; rw [ne_eq, (ck_iff _ _).2]; omega
      · rename_i c
        refine ⟨by omega, by omega, fun j hj => ?_⟩
        by_cases hji : j = i
        · subst hji; exact ⟨by omega, by omega⟩
        · exact h3 j (by omega)
def invBe (g : GBe) (i : Nat × Int) : Prop := i.1 ≤ g.l.length ∧ i.2 = bestF g.l i.1
def msBe (g : GBe) (i : Nat × Int) : Nat := g.l.length - i.1
theorem be_piece : PieceOk EtWg 1 (20, pBe, specBe) := by
  refine piece_loop mixed (calls_envT tWg_ok) (lok_envT _ _) lm_none (n := 60) (by kernel_rfl) (fun g : GBe => ((0, -1) : Nat × Int)) invBe msBe (sl := slBe) (rl := rlBe) (fun g hg => ⟨Nat.zero_le _, rfl⟩) (fun g s hg hi => ?_)
  refine (be_round g s _ _).mpr ?_
  obtain ⟨i, n⟩ := s
  obtain ⟨h1, h2⟩ := hi
  have hm : maxLen = 9223372036854775807 := by unfold maxLen; rfl
  simp only at h1 h2
  simp only [ofNat_eq, toNat_cast, Nat.zero_add, Nat.add_zero, Nat.mul_one, List.drop_zero, bCells_len, bCells_drop, bCells_take, bCells_app, bCells_one, bCells_plain, List.length_replicate, List.length_append, List.length_take, List.length_drop, List.take_length, and_true, true_and, and_self, decide_true, List.length_nil, List.length_cons, Nat.sub_zero, dB_mk, dB_ro, List.take_zero, nPl, nLen]
  have kb : (i = 0 ∧ bestF g.l i = -1) ∨ (0 < i ∧ 0 ≤ bestF g.l i ∧ bestF g.l i < i) := by
    rcases best_top g.l i h1 with h | ⟨h, h3, h4, _⟩
    · exact .inl h
    · exact .inr ⟨h, h3, h4⟩
  refine br_if (fun h => ?_) (fun h => ?_)
  · have w : IntKind.i64.wrap ((i : Int) + 1) = ((i + 1 : Nat) : Int) := by rw [wr64_id (by unfold I64; omega)]; omega
    rw [w]
    obtain ⟨n1, n2⟩ := nGet g.l i (by omega)
    rw [n2]
    refine br_dec (by omega) ⟨n1, br_if (fun c => ⟨(i + 1, (i : Nat)), ⟨by simp only; omega, ?_⟩, by unfold msBe; simp only; omega, rfl, rfl⟩) (fun c => ?_)⟩
    · show ((i : Nat) : Int) = bestF g.l (i + 1)
      unfold bestF
      rw [if_pos (.inl (by omega))]
    · obtain ⟨m1, m2⟩ := nGet g.l n.toNat (by omega)
      rw [m2]
      refine br_dec (by omega) ⟨m1, br_if (fun c2 => ⟨(i + 1, (i : Nat)), ⟨by simp only; omega, ?_⟩, by unfold msBe; simp only; omega, rfl, rfl⟩) (fun c2 => ⟨(i + 1, n), ⟨by simp only; omega, ?_⟩, by unfold msBe; simp only; omega, rfl, rfl⟩)⟩
      · show ((i : Nat) : Int) = bestF g.l (i + 1)
        unfold bestF
        rw [← h2, if_pos (.inr (by omega))]
      · show n = bestF g.l (i + 1)
        unfold bestF
        rw [← h2, if_neg (by omega)]
  · have e : i = g.l.length := by omega
    exact ⟨(), by unfold bestL gRo; rw [bestR_mk, h2, e]⟩
theorem best_con (l : List Nat) (hl : l.length ≤ maxLen) : Con Try.prog 20 [.slice (some ⟨0, 0, none⟩) l.length 1] [gRo enN l] (.int .i64 (bestL l)) [gRo enN l] := by
  refine con_vc (E := EtWg) mixed (calls_envT tWg_ok) (lok_envT _ _) (M := mBe) (lm_one be_piece) (be_vc l _) ?_
  have hm : maxLen = 9223372036854775807 := by unfold maxLen; rfl
  simp only [ofNat_eq, toNat_cast, Nat.zero_add, Nat.add_zero, Nat.mul_one, List.drop_zero, bCells_len, bCells_drop, bCells_take, bCells_app, bCells_one, bCells_plain, List.length_replicate, List.length_append, List.length_take, List.length_drop, List.take_length, and_true, true_and, and_self, decide_true, List.length_nil, List.length_cons, Nat.sub_zero, dB_mk, dB_ro, List.take_zero, nPl, nLen]
  exact ⟨⟨l⟩, by simp only; omega, rfl, rfl, rfl, rfl, fun _ _ => ⟨rfl, rfl⟩⟩
theorem eBe_ok : EntOk Try.prog eBe := entC_ok (by
  intro a rows p v news h hp
  split at h <;> simp only [Option.some.injEq, Prod.mk.injEq, reduceCtorEq] at h
  obtain ⟨rfl, rfl, rfl⟩ := h
  obtain ⟨⟨l, rfl, rfl⟩, h1⟩ := hp
  exact best_con l h1)
theorem tBe_ok : ∀ x ∈ tBe, EntOk Try.prog x := all_cons eRuns_ok (all_cons eCk_ok (all_cons eRck_ok (all_cons eBe_ok (all_nil))))
theorem lb_piece : PieceOk EtBe 1 (7, pLb, specLb) := by
  refine piece_loop mixed (calls_envT tBe_ok) (lok_envT _ _) lm_none (n := 60) (by kernel_rfl) (fun g : GLb => 0) (fun g i => i ≤ g.n) (fun g i => g.n - i) (sl := slLb) (rl := rlLb) (fun g hg => Nat.zero_le _) (fun g i hg hi => ?_)
  refine (lb_round g i _ _).mpr ?_
  have hm : maxLen = 9223372036854775807 := by unfold maxLen; rfl
  obtain ⟨g1, g2, g3, g4, g5⟩ := hg
  simp only [ofNat_eq, toNat_cast, Nat.zero_add, Nat.add_zero, Nat.mul_one, List.drop_zero, bCells_len, bCells_drop, bCells_take, bCells_app, bCells_one, bCells_plain, List.length_replicate, List.length_append, List.length_take, List.length_drop, List.take_length, and_true, true_and, and_self, decide_true, List.length_nil, List.length_cons, Nat.sub_zero, dB_mk, dB_ro, List.take_zero, nPl, nLen]
  refine br_if (fun h => ?_) (fun h => ⟨(), trivial⟩)
  have w : IntKind.i64.wrap ((i : Int) + 1) = ((i + 1 : Nat) : Int) := by rw [wr64_id (by unfold I64; omega)]; omega
  rw [w]
  obtain ⟨n1, n2⟩ := nGet g.l i (by omega)
  obtain ⟨m1, m2⟩ := nGet g.l g.k.toNat (by omega)
  obtain ⟨t1, t2⟩ := g5 i (by omega)
  rw [n2, m2]
  refine br_dec (by omega) ⟨n1, br_dec (by omega) ⟨m1, n1, m1, br_if (fun c => by omega) (fun c => br_intro (fun c2 => br_if (fun c3 => t2 c3 (by simpa using c2)) (fun c3 => ⟨i + 1, by omega, by omega, rfl⟩)) (fun c2 => ⟨i + 1, by omega, by omega, rfl⟩))⟩⟩
theorem top_take (l : List Nat) (n : Nat) (h : n ≤ l.length) {k : Int} (t : Top (l.take n) n k) : Top l n k := by
  obtain ⟨t1, t2, t3⟩ := t
  refine ⟨t1, t2, fun j hj => ?_⟩
  have e : ∀ j, j < n → (l.take n).getD j 0 = l.getD j 0 := fun j hj => by simp [List.getD, List.getElem?_take, hj]
  have := t3 j hj
  rwa [e j hj, e k.toNat (by omega)] at this
theorem lb_law (l : List Nat) (hl : l.length ≤ maxLen) (_ : ∀ a ∈ l, True) : Con Try.prog 7 [.slice (some ⟨0, 0, none⟩) l.length 1] [gRo enN l] (.bool true) [gRo enN l] := by
  refine con_vc (E := EtBe) mixed (calls_envT tBe_ok) (lok_envT _ _) (M := mLb) (lm_one lb_piece) (lb_vc l) ?_
  have hm : maxLen = 9223372036854775807 := by unfold maxLen; rfl
  simp only [ofNat_eq, toNat_cast, Nat.zero_add, Nat.add_zero, Nat.mul_one, List.drop_zero, bCells_len, bCells_drop, bCells_take, bCells_app, bCells_one, bCells_plain, List.length_replicate, List.length_append, List.length_take, List.length_drop, List.take_length, and_true, true_and, and_self, decide_true, List.length_nil, List.length_cons, Nat.sub_zero, dB_mk, dB_ro, List.take_zero, nPl, nLen]
  simp only [nTake, bestR_mk]
  have isN : ∀ (m : List Nat) n, n = m.length → IsN ⟨gC enN m, true, .cells true⟩ n := fun m n h => ⟨m, rfl, h⟩
  refine br_if (fun h => ?_) (fun h => ?_)
  · have e : (l.take 60).length = 60 := by rw [List.length_take]; omega
    have e6 : Int.toNat 60 = 60 := rfl
    rw [e]
    rcases best_top (l.take 60) 60 (by omega) with ⟨h0, _⟩ | ⟨_, ht⟩
    · omega
    · have t1 := ht.1
      have t2 := ht.2.1
      generalize bestF (List.take 60 l) 60 = k at *
      refine br_dec (by omega) ⟨⟨⟨by omega, nPl _⟩, isN _ _ e.symm, by omega⟩, br_nd (by omega) (br_nd (by omega) ⟨⟨l, 60, k⟩, ⟨by simp only; omega, by simp only; omega, top_take l 60 (by omega) ht⟩, rfl, rfl, rfl, fun _ _ => rfl⟩)⟩
  · have e : l.take l.length = l := List.take_length
    rw [e]
    refine ⟨⟨⟨Nat.le_refl _, nPl _⟩, isN _ _ rfl, by omega⟩, ?_⟩
    rcases best_top l l.length (by omega) with ⟨h0, h1⟩ | ⟨h0, ht⟩
    · rw [h0] at h1 ⊢
      rw [h1]
      exact br_b rfl (br_b rfl trivial)
    · have t1 := ht.1
      have t2 := ht.2.1
      refine br_nb (by rw [beq_eq_false_iff_ne]; omega) (br_nd (by omega) (br_nd (by omega) ⟨⟨l, l.length, _⟩, ⟨by simp only; omega, by simp only; omega, ht⟩, rfl, rfl, rfl, fun _ _ => rfl⟩))
end Go.Proofs.Ytgnpilaadggegaa.fl
