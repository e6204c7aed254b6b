/- An evaluator of the model's code, sound for every world, second edition: part 1. -/
import Derived.Orders
import Derived.Recover
import Derived.Below
import Derived.KernelRfl
import Derived.Laws.IdiomCopy
import Derived.Laws.Entries
import Derived.Laws.BytesString
import Derived.Laws.Strings
namespace Go.Ev
def pr (a b : Nat) : Nat := 2 ^ a * (2 * b + 1)
theorem pr_inj {a b c d : Nat} (h : pr a b = pr c d) : a = c ∧ b = d := by
  unfold pr at h
  have key : ∀ {a b c d : Nat}, a < c → 2 ^ a * (2 * b + 1) = 2 ^ c * (2 * d + 1) → False := by
    intro a b c d hac h
    obtain ⟨k, rfl⟩ : ∃ k, c = a + (k + 1) := ⟨c - a - 1, by omega⟩
    rw [Nat.pow_add, Nat.mul_assoc] at h
    have h2 := Nat.eq_of_mul_eq_mul_left (Nat.two_pow_pos a) h
    rw [Nat.pow_succ, Nat.mul_assoc] at h2
    have : 2 ^ k * (2 * (2 * d + 1)) = 2 * (2 ^ k * (2 * d + 1)) := by rw [Nat.mul_left_comm]
    omega
  rcases Nat.lt_trichotomy a c with hac | hac | hac
  · exact (key hac h).elim
  · subst hac
    have h2 := Nat.eq_of_mul_eq_mul_left (Nat.two_pow_pos a) h
    exact ⟨rfl, by omega⟩
  · exact (key hac h.symm).elim
theorem pr_pos (a b : Nat) : 0 < pr a b := Nat.mul_pos (Nat.two_pow_pos a) (by omega)
def encL : List Nat → Nat
  | [] => 0
  | a :: l => pr a (encL l)
theorem encL_inj : ∀ {l m : List Nat}, encL l = encL m → l = m
  | [], [], _ => rfl
  | [], b :: m, h => by have := pr_pos b (encL m); simp only [encL] at h; omega
  | a :: l, [], h => by have := pr_pos a (encL l); simp only [encL] at h; omega
  | a :: l, b :: m, h => by
    simp only [encL] at h
    obtain ⟨h1, h2⟩ := pr_inj h
    rw [h1, encL_inj h2]
def kIdx : IntKind → Nat
  | .i8 => 0 | .i16 => 1 | .i32 => 2 | .i64 => 3 | .u8 => 4 | .u16 => 5 | .u32 => 6 | .u64 => 7
theorem kIdx_inj {a b : IntKind} (h : kIdx a = kIdx b) : a = b := by cases a <;> cases b <;> first | rfl | simp [kIdx] at h
def fIdx : FloatKind → Nat
  | .f32 => 0 | .f64 => 1
theorem fIdx_inj {a b : FloatKind} (h : fIdx a = fIdx b) : a = b := by cases a <;> cases b <;> first | rfl | simp [fIdx] at h
def iNum : Int → Nat
  | .ofNat n => 2 * n
  | .negSucc n => 2 * n + 1
theorem iNum_inj {a b : Int} (h : iNum a = iNum b) : a = b := by
  cases a <;> cases b <;> simp only [iNum] at h
  · congr 1; omega
  · omega
  · omega
  · congr 1; omega
def gOk : Value → Bool
  | .bool _ | .int _ _ | .string _ | .float _ _ | .pointer none | .slice none 0 0 | .nilFunc | .nilIface => true
  | .slice (some ⟨_, _, some 0⟩) _ _ | .pointer (some ⟨_, _, some 0⟩) => true
  | _ => false
def gNum : Value → Nat
  | .bool b => pr 0 b.toNat
  | .int k n => pr 1 (pr (kIdx k) (iNum n))
  | .string s => pr 2 (encL (s.data.toList.map UInt8.toNat))
  | .float k b => pr 3 (pr (fIdx k) b)
  | .slice (some ⟨z, o, _⟩) n e => pr 4 (pr z (pr o (pr n e)))
  | .slice none _ _ => pr 5 0
  | .nilFunc => pr 6 0
  | .nilIface => pr 7 0
  | .pointer (some ⟨z, o, _⟩) => pr 8 (pr z o)
  | .pointer none => pr 9 0
  | _ => 0
theorem map_inj {α β : Type} {f : α → β} (hf : ∀ {a b}, f a = f b → a = b) : ∀ {l m : List α}, l.map f = m.map f → l = m
  | [], [], _ => rfl
  | [], _ :: _, h => by simp at h
  | _ :: _, [], h => by simp at h
  | a :: l, b :: m, h => by
    simp only [List.map_cons, List.cons.injEq] at h
    rw [hf h.1, map_inj hf h.2]
theorem gOk_cases {a : Value} (h : gOk a = true) : (∃ b, a = .bool b) ∨ (∃ k n, a = .int k n) ∨ (∃ s, a = .string s) ∨ (∃ k b, a = .float k b) ∨ (∃ z o n e, a = .slice (some ⟨z, o, some 0⟩) n e) ∨ (∃ z o, a = .pointer (some ⟨z, o, some 0⟩)) ∨
    a = .slice none 0 0 ∨ a = .pointer none ∨ a = .nilFunc ∨ a = .nilIface := by
  unfold gOk at h
  split at h <;> first | (simp at h; done) | simp
theorem gNum_inj {a b : Value} (ha : gOk a = true) (hb : gOk b = true) (h : gNum a = gNum b) : a = b := by
  rcases gOk_cases ha with ⟨x, rfl⟩ | ⟨k, n, rfl⟩ | ⟨⟨⟨x⟩⟩, rfl⟩ | ⟨k, n, rfl⟩ | ⟨z, o, n, e, rfl⟩ | ⟨z, o, rfl⟩ | rfl | rfl | rfl | rfl <;>
  rcases gOk_cases hb with ⟨x', rfl⟩ | ⟨k', n', rfl⟩ | ⟨⟨⟨x'⟩⟩, rfl⟩ | ⟨k', n', rfl⟩ | ⟨z', o', n', e', rfl⟩ | ⟨z', o', rfl⟩ | rfl | rfl | rfl | rfl <;>
  first
  | rfl
  | (exact absurd (pr_inj h).1 (by decide))
  | skip
  · have := (pr_inj h).2
    cases x <;> cases x' <;> first | rfl | simp at this
  · obtain ⟨h1, h2⟩ := pr_inj (pr_inj h).2
    rw [kIdx_inj h1, iNum_inj h2]
  · have := map_inj (fun {a b} h => UInt8.toNat_inj.1 h) (encL_inj (pr_inj h).2)
    simp only at this; subst this; rfl
  · obtain ⟨h1, h2⟩ := pr_inj (pr_inj h).2
    rw [fIdx_inj h1, h2]
  · obtain ⟨h1, h2⟩ := pr_inj (pr_inj h).2
    obtain ⟨h3, h4⟩ := pr_inj h2
    obtain ⟨h5, h6⟩ := pr_inj h4
    subst h1; subst h3; subst h5; subst h6; rfl
  · obtain ⟨h1, h2⟩ := pr_inj (pr_inj h).2
    subst h1; subst h2; rfl
def gAll (l : List Value) : Bool := l.all gOk
def gCode0 (l : List Value) : Nat := encL (l.map gNum)
theorem gCode_inj : ∀ {l m : List Value}, gAll l = true → gAll m = true → gCode0 l = gCode0 m → l = m := by
  intro l
  induction l with
  | nil =>
    intro m _ _ h
    have := encL_inj h
    cases m with
    | nil => rfl
    | cons b m => simp at this
  | cons a l ih =>
    intro m h1 h2 h
    have := encL_inj h
    cases m with
    | nil => simp at this
    | cons b m =>
      simp only [List.map_cons, List.cons.injEq] at this
      simp only [gAll, List.all_cons, Bool.and_eq_true] at h1 h2
      rw [gNum_inj h1.1 h2.1 this.1, ih h1.2 h2.2 (by unfold gCode0; rw [this.2])]
open Classical in
theorem gPair_ex : ∃ (f : Nat → List Value) (g : List Value → Nat), (∀ l, gAll l = true → f (g l) = l) ∧ ∀ z, gAll (f z) = true := by
  refine ⟨fun z => if h : ∃ l, gAll l = true ∧ gCode0 l = z then Classical.choose h else [], gCode0, fun l h => ?_, fun z => ?_⟩
  · have e : ∃ m, gAll m = true ∧ gCode0 m = gCode0 l := ⟨l, h, rfl⟩
    simp only
    rw [dif_pos e]
    obtain ⟨h1, h2⟩ := Classical.choose_spec e
    exact gCode_inj h1 h h2
  · simp only
    split
    · rename_i h; exact (Classical.choose_spec h).1
    · rfl
noncomputable def gCells : Nat → List Value := Classical.choose gPair_ex
noncomputable def gCode : List Value → Nat := Classical.choose (Classical.choose_spec gPair_ex)
theorem gCells_code {l : List Value} (h : gAll l = true) : gCells (gCode l) = l := (Classical.choose_spec (Classical.choose_spec gPair_ex)).1 l h
theorem gCells_all (z : Nat) : gAll (gCells z) = true := (Classical.choose_spec (Classical.choose_spec gPair_ex)).2 z
end Go.Ev
namespace Go.Ev
open Go.RowKit
inductive Tr (α : Type) where
  | leaf
  | node (l : Tr α) (v : Option α) (r : Tr α)
namespace Tr
variable {α β : Type}
noncomputable def find (t : Tr α) : Nat → Option α :=
  Tr.rec (motive := fun _ => Nat → Option α) (fun _ => none) (fun _ v _ fl fr n => Nat.rec (motive := fun _ => Option α) v (fun n _ => Bool.rec (motive := fun _ => Option α) (fr (Nat.div n 2)) (fl (Nat.div n 2)) (Nat.beq (Nat.mod n 2) 0)) n) t
theorem find_leaf (n : Nat) : (Tr.leaf : Tr α).find n = none := rfl
theorem find_zero (l r : Tr α) (v : Option α) : (Tr.node l v r).find 0 = v := rfl
theorem find_succ (l r : Tr α) (v : Option α) (n : Nat) : (Tr.node l v r).find (n + 1) = bif Nat.beq (n % 2) 0 then l.find (n / 2) else r.find (n / 2) := by
  show Bool.rec (motive := fun _ => Option α) (r.find (n / 2)) (l.find (n / 2)) (Nat.beq (n % 2) 0) = _
  cases Nat.beq (n % 2) 0 <;> rfl
def cs (t : Tr α) (k : Tr α → Option α → Tr α → β) : β :=
  match t with
  | .leaf => k .leaf none .leaf
  | .node l v r => k l v r
noncomputable def putK (f : Nat) : Tr α → Nat → Option α → (Tr α → β) → β :=
  Nat.rec (motive := fun _ => Tr α → Nat → Option α → (Tr α → β) → β) (fun t _ _ k => k t)
    (fun _ ih t n o k => Tr.rec (motive := fun _ => β)
      (Nat.rec (motive := fun _ => β) (k (.node .leaf o .leaf)) (fun n _ => Bool.rec (motive := fun _ => β) (ih .leaf (Nat.div n 2) o fun r' => k (.node .leaf none r')) (ih .leaf (Nat.div n 2) o fun l' => k (.node l' none .leaf)) (Nat.beq (Nat.mod n 2) 0)) n)
      (fun l v r _ _ => Nat.rec (motive := fun _ => β) (k (.node l o r)) (fun n _ => Bool.rec (motive := fun _ => β) (ih r (Nat.div n 2) o fun r' => k (.node l v r')) (ih l (Nat.div n 2) o fun l' => k (.node l' v r)) (Nat.beq (Nat.mod n 2) 0)) n) t) f
theorem putK_succ (f : Nat) (t : Tr α) (n : Nat) (o : Option α) (k : Tr α → β) : putK (f + 1) t n o k = t.cs fun l v r =>
    match n with
    | 0 => k (.node l o r)
    | n + 1 => bif Nat.beq (n % 2) 0 then putK f l (n / 2) o (fun l' => k (.node l' v r)) else putK f r (n / 2) o (fun r' => k (.node l v r')) := by
  cases t with
  | leaf =>
    cases n with
    | zero => rfl
    | succ n =>
      show Bool.rec (motive := fun _ => β) (putK f .leaf (n / 2) o fun r' => k (.node .leaf none r')) (putK f .leaf (n / 2) o fun l' => k (.node l' none .leaf)) (Nat.beq (n % 2) 0) = cond _ _ _
      cases Nat.beq (n % 2) 0 <;> rfl
  | node l v r =>
    cases n with
    | zero => rfl
    | succ n =>
      show Bool.rec (motive := fun _ => β) (putK f r (n / 2) o fun r' => k (.node l v r')) (putK f l (n / 2) o fun l' => k (.node l' v r)) (Nat.beq (n % 2) 0) = cond _ _ _
      cases Nat.beq (n % 2) 0 <;> rfl
noncomputable def put (t : Tr α) (n : Nat) (o : Option α) : Tr α := putK 40 t n o fun t => t
theorem cs_eq (t : Tr α) (k : Tr α → Option α → Tr α → β) : ∃ l v r, t.cs k = k l v r ∧ (∀ m, t.find m = (Tr.node l v r).find m) ∧ ∀ k' : Tr α → Option α → Tr α → Tr α, t.cs k' = k' l v r := by
  cases t with
  | leaf => exact ⟨.leaf, none, .leaf, rfl, fun m => by cases m <;> simp [find_leaf, find_zero, find_succ] <;> (cases Nat.beq (_ % 2) 0 <;> rfl), fun _ => rfl⟩
  | node l v r => exact ⟨l, v, r, rfl, fun _ => rfl, fun _ => rfl⟩
theorem putK_eq : ∀ (f : Nat) (t : Tr α) (n : Nat) (o : Option α) (k : Tr α → β), putK f t n o k = k (putK f t n o fun t => t) := by
  intro f
  induction f generalizing β with
  | zero => intro t n o k; rfl
  | succ f ih =>
    intro t n o k
    simp only [putK_succ]
    obtain ⟨l, v, r, e, _, e'⟩ := cs_eq t (fun l v r => match n with
      | 0 => k (.node l o r)
      | n + 1 => bif Nat.beq (n % 2) 0 then putK f l (n / 2) o (fun l' => k (.node l' v r)) else putK f r (n / 2) o (fun r' => k (.node l v r')))
    rw [e, e']
    cases n with
    | zero => rfl
    | succ n =>
      cases hb : Nat.beq (n % 2) 0
      · simp only [hb, cond_false]
        rw [ih r (n / 2) o (fun r' => k (.node l v r'))]
        exact congrArg k (ih r (n / 2) o (fun r' => Tr.node l v r')).symm
      · simp only [hb, cond_true]
        rw [ih l (n / 2) o (fun l' => k (.node l' v r))]
        exact congrArg k (ih l (n / 2) o (fun l' => Tr.node l' v r)).symm
theorem beq_zero (n : Nat) : Nat.beq n 0 = decide (n = 0) := by
  cases n <;> rfl
theorem find_node_succ (l r : Tr α) (v : Option α) (m : Nat) : (Tr.node l v r).find (m + 1) = if m % 2 = 0 then l.find (m / 2) else r.find (m / 2) := by
  simp only [find_succ, beq_zero]
  by_cases h : m % 2 = 0 <;> simp [h]
theorem find_putK : ∀ (f : Nat) (t : Tr α) (n m : Nat) (o : Option α), n + 1 < 2 ^ f → (putK f t n o fun t => t).find m = if m = n then o else t.find m := by
  intro f
  induction f with
  | zero => intro t n m o h; simp at h
  | succ f ih =>
    intro t n m o h
    simp only [putK_succ]
    obtain ⟨l, v, r, e, hf, _⟩ := cs_eq t (fun l v r => match n with
      | 0 => (.node l o r : Tr α)
      | n + 1 => bif Nat.beq (n % 2) 0 then putK f l (n / 2) o (fun l' => .node l' v r) else putK f r (n / 2) o (fun r' => .node l v r'))
    rw [e, hf]
    cases n with
    | zero => cases m with
      | zero => simp [find_zero]
      | succ m => simp only [find_node_succ]; simp
    | succ n =>
      have hh : n / 2 + 1 < 2 ^ f := by rw [Nat.pow_succ] at h; omega
      simp only [beq_zero]
      by_cases hb : n % 2 = 0
      · simp only [hb, decide_true, cond_true]
        rw [putK_eq]
        cases m with
        | zero => simp [find_zero]
        | succ m =>
          simp only [find_node_succ]
          by_cases hm : m % 2 = 0
          · have : (m / 2 = n / 2) = (m + 1 = n + 1) := propext (by omega)
            simp only [hm, if_true, ih _ _ _ _ hh, this]
          · have : ¬ m + 1 = n + 1 := by omega
            simp only [hm, if_false, this]
      · simp only [hb, decide_false, cond_false]
        rw [putK_eq]
        cases m with
        | zero => simp [find_zero]
        | succ m =>
          simp only [find_node_succ]
          by_cases hm : m % 2 = 0
          · have : ¬ m + 1 = n + 1 := by omega
            simp only [hm, if_true, this, if_false]
          · have : (m / 2 = n / 2) = (m + 1 = n + 1) := propext (by omega)
            simp only [hm, if_false, ih _ _ _ _ hh, this]
def top : Nat := 2 ^ 39
theorem find_put (t : Tr α) (n m : Nat) (o : Option α) (h : n < top) : (t.put n o).find m = if m = n then o else t.find m :=
  find_putK 40 t n m o (by unfold top at h; omega)
end Tr
def isNan (k : FloatKind) (b : Nat) : Bool := match k.format.read b with | .nan _ _ => true | _ => false
abbrev Mu := Nat → Option (Nat × Nat × Nat)
def gAt (z i : Nat) : Nat := Tr.top + 2 * pr z i
theorem gAt_inj {z i y j : Nat} (h : gAt z i = gAt y j) : z = y ∧ i = j := pr_inj (by unfold gAt at h; omega)
theorem gAt_ge (z i : Nat) : Tr.top ≤ gAt z i := Nat.le_add_right _ _
inductive VR (μ : Mu) : Value → Value → Prop where
  | gptr (z k i b o s : Nat) (h : μ (gAt z i) = some (b, o, s)) : VR μ (.pointer (some ⟨z, k, some 0⟩)) (.pointer (some ⟨b, o + k, none⟩))
  | gsl (z k n e i b o s c : Nat) (h : μ (gAt z i) = some (b, o, s)) (hn : n ≤ c) (hc : o + k + c * e ≤ s) :
      VR μ (.slice (some ⟨z, k, some 0⟩) n e) (.slice (some ⟨b, o + k, none⟩) n c)
  | gsl0 (z k e : Nat) (a : Option Addr) : VR μ (.slice (some ⟨z, k, some 0⟩) 0 e) (.slice a 0 0)
  | bool (b : Bool) : VR μ (.bool b) (.bool b)
  | int (k : IntKind) (n : Int) : VR μ (.int k n) (.int k n)
  | float (k : FloatKind) (b : Nat) : VR μ (.float k b) (.float k b)
  | nan (k : FloatKind) (b b' : Nat) (h : isNan k b = true) (h' : isNan k b' = true) : VR μ (.float k b) (.float k b')
  | mnil : VR μ (.map none) (.map none)
  | mapp (r b : Nat) (h : μ r = some (b, 0, 1)) : VR μ (.map (some r)) (.map (some b))
  | complex (k : FloatKind) (a b : Nat) : VR μ (.complex k a b) (.complex k a b)
  | str (s : ByteArray) : VR μ (.string s) (.string s)
  | pnil : VR μ (.pointer none) (.pointer none)
  | ptr (r k b o s : Nat) (h : μ r = some (b, o, s)) : VR μ (.pointer (some ⟨r, k, none⟩)) (.pointer (some ⟨b, o + k, none⟩))
  | snil : VR μ (.slice none 0 0) (.slice none 0 0)
  | slice (r k n e b o s c : Nat) (h : μ r = some (b, o, s)) (hn : n ≤ c) (hc : o + k + c * e ≤ s) :
      VR μ (.slice (some ⟨r, k, none⟩) n e) (.slice (some ⟨b, o + k, none⟩) n c)
  | slice0 (r k e : Nat) (a : Option Addr) : VR μ (.slice (some ⟨r, k, none⟩) 0 e) (.slice a 0 0)
  | func (fn : Fn) (x y x' y' : Array Value) (hx : x.size = x'.size) (hy : y.size = y'.size)
      (h1 : ∀ i (h : i < x.size) (h' : i < x'.size), VR μ x[i] x'[i]) (h2 : ∀ i (h : i < y.size) (h' : i < y'.size), VR μ y[i] y'[i]) :
      VR μ (.func fn x y) (.func fn x' y')
  | nilFunc : VR μ .nilFunc .nilFunc
  | iface (t : TypeId) (v v' : Value) (h : VR μ v v') : VR μ (.iface t v) (.iface t v')
  | nilIface : VR μ .nilIface .nilIface
  | agg (x x' : Array Value) (hx : x.size = x'.size) (h : ∀ i (h : i < x.size) (h' : i < x'.size), VR μ x[i] x'[i]) : VR μ (.agg x) (.agg x')
  | tuple (x x' : Array Value) (hx : x.size = x'.size) (h : ∀ i (h : i < x.size) (h' : i < x'.size), VR μ x[i] x'[i]) : VR μ (.tuple x) (.tuple x')
def VRs (μ : Mu) (l l' : List Value) : Prop := l.length = l'.length ∧ ∀ (i : Nat) v v', l[i]? = some v → l'[i]? = some v' → VR μ v v'
def Le (μ μ' : Mu) : Prop := ∀ r p, μ r = some p → μ' r = some p
theorem Le.refl (μ : Mu) : Le μ μ := fun _ _ h => h
theorem Le.trans {a b c : Mu} (h : Le a b) (k : Le b c) : Le a c := fun r p hp => k r p (h r p hp)
theorem VR.le {μ μ' : Mu} {v v' : Value} (h : VR μ v v') (hl : Le μ μ') : VR μ' v v' := by
  induction h with
  | gptr z k i b o s h => exact .gptr z k i b o s (hl _ _ h)
  | gsl z k n e i b o s c h hn hc => exact .gsl z k n e i b o s c (hl _ _ h) hn hc
  | gsl0 z k e a => exact .gsl0 z k e a
  | bool b => exact .bool b
  | int k n => exact .int k n
  | float k b => exact .float k b
  | nan k b b' h h' => exact .nan k b b' h h'
  | mnil => exact .mnil
  | mapp r b h => exact .mapp r b (hl _ _ h)
  | complex k a b => exact .complex k a b
  | str s => exact .str s
  | pnil => exact .pnil
  | ptr r k b o s h => exact .ptr r k b o s (hl _ _ h)
  | snil => exact .snil
  | slice r k n e b o s c h hn hc => exact .slice r k n e b o s c (hl _ _ h) hn hc
  | slice0 r k e a => exact .slice0 r k e a
  | func fn x y x' y' hx hy _ _ ih1 ih2 => exact .func fn x y x' y' hx hy (fun i a b => ih1 i a b) (fun i a b => ih2 i a b)
  | nilFunc => exact .nilFunc
  | iface t v v' _ ih => exact .iface t v v' ih
  | nilIface => exact .nilIface
  | agg x x' hx _ ih => exact .agg x x' hx (fun i a b => ih i a b)
  | tuple x x' hx _ ih => exact .tuple x x' hx (fun i a b => ih i a b)
theorem VRs.le {μ μ' : Mu} {v v' : List Value} (h : VRs μ v v') (hl : Le μ μ') : VRs μ' v v' :=
  ⟨h.1, fun i a b ha hb => (h.2 i a b ha hb).le hl⟩
section lists
variable {μ : Mu}
theorem VRs.nil : VRs μ [] [] := ⟨rfl, fun i v v' h => by simp at h⟩
theorem VRs.cons {a b : Value} {l m : List Value} (h : VR μ a b) (hl : VRs μ l m) : VRs μ (a :: l) (b :: m) :=
  ⟨by simp [hl.1], fun i v v' h1 h2 => by
    cases i with
    | zero => simp at h1 h2; subst h1; subst h2; exact h
    | succ i => simp at h1 h2; exact hl.2 i v v' h1 h2⟩
theorem VRs.uncons {a : Value} {l m : List Value} (h : VRs μ (a :: l) m) : ∃ b m', m = b :: m' ∧ VR μ a b ∧ VRs μ l m' := by
  cases m with
  | nil => exact absurd h.1 (by simp)
  | cons b m' => exact ⟨b, m', rfl, h.2 0 a b rfl rfl, by have := h.1; simpa using this, fun i v v' h1 h2 => h.2 (i + 1) v v' (by simpa using h1) (by simpa using h2)⟩
theorem VRs.get {l m : List Value} (h : VRs μ l m) {i : Nat} {v : Value} (hi : l[i]? = some v) : ∃ v', m[i]? = some v' ∧ VR μ v v' := by
  have hlt := (List.getElem?_eq_some_iff.1 hi).1
  have : i < m.length := by rw [← h.1]; exact hlt
  exact ⟨m[i], List.getElem?_eq_getElem this, h.2 i v _ hi (List.getElem?_eq_getElem this)⟩
theorem VRs.append {a b c d : List Value} (h : VRs μ a b) (k : VRs μ c d) : VRs μ (a ++ c) (b ++ d) := by
  refine ⟨by simp [h.1, k.1], fun i v v' h1 h2 => ?_⟩
  by_cases hi : i < a.length
  · rw [List.getElem?_append_left hi] at h1
    rw [List.getElem?_append_left (by rw [← h.1]; exact hi)] at h2
    exact h.2 i v v' h1 h2
  · rw [List.getElem?_append_right (by omega)] at h1
    rw [List.getElem?_append_right (by rw [← h.1]; omega), ← h.1] at h2
    exact k.2 _ v v' h1 h2
theorem VRs.take {a b : List Value} (h : VRs μ a b) (n : Nat) : VRs μ (a.take n) (b.take n) := by
  refine ⟨by simp [h.1], fun i v v' h1 h2 => ?_⟩
  rw [List.getElem?_take] at h1 h2
  split at h1
  · rename_i hlt; rw [if_pos hlt] at h2; exact h.2 i v v' h1 h2
  · simp at h1
theorem VRs.drop {a b : List Value} (h : VRs μ a b) (n : Nat) : VRs μ (a.drop n) (b.drop n) := by
  refine ⟨by simp [h.1], fun i v v' h1 h2 => ?_⟩
  rw [List.getElem?_drop] at h1 h2
  exact h.2 _ v v' h1 h2
theorem VRs.of_array {x x' : Array Value} (hx : x.size = x'.size) (h : ∀ i (h : i < x.size) (h' : i < x'.size), VR μ x[i] x'[i]) : VRs μ x.toList x'.toList := by
  refine ⟨by simpa using hx, fun i v v' h1 h2 => ?_⟩
  obtain ⟨a1, rfl⟩ := List.getElem?_eq_some_iff.1 h1
  obtain ⟨a2, rfl⟩ := List.getElem?_eq_some_iff.1 h2
  exact h i (by simpa using a1) (by simpa using a2)
theorem VRs.agg {l l' : List Value} (h : VRs μ l l') : VR μ (.agg l.toArray) (.agg l'.toArray) :=
  .agg _ _ (by simp [h.1]) (fun i a b => by
    simp at a b
    exact h.2 i _ _ (by simp [a]) (by simp [b]))
theorem VRs.tuple {l l' : List Value} (h : VRs μ l l') : VR μ (.tuple l.toArray) (.tuple l'.toArray) :=
  .tuple _ _ (by simp [h.1]) (fun i a b => by
    simp at a b
    exact h.2 i _ _ (by simp [a]) (by simp [b]))
theorem VR.cells {v v' : Value} (h : VR μ v v') : VRs μ v.cells.toList v'.cells.toList := by
  cases h with
  | agg x x' hx h => exact VRs.of_array hx h
  | slice r k n e b o s c h hn hc => exact .cons (.slice r k n e b o s c h hn hc) .nil
  | ptr r k b o s h => exact .cons (.ptr r k b o s h) .nil
  | func fn x y x' y' hx hy h1 h2 => exact .cons (.func fn x y x' y' hx hy h1 h2) .nil
  | iface t v v' h => exact .cons (.iface t v v' h) .nil
  | tuple x x' hx h => exact .cons (.tuple x x' hx h) .nil
  | slice0 r k e a => exact .cons (.slice0 r k e a) .nil
  | gptr z k i b o s h => exact .cons (.gptr z k i b o s h) .nil
  | gsl z k n e i b o s c h hn hc => exact .cons (.gsl z k n e i b o s c h hn hc) .nil
  | gsl0 z k e a => exact .cons (.gsl0 z k e a) .nil
  | nan k b b' h h' => exact .cons (.nan k b b' h h') .nil
  | mapp r b h => exact .cons (.mapp r b h) .nil
  | _ => exact .cons (by constructor) .nil
end lists
def flat : Nat → Value → Bool
  | 0, _ => false
  | _ + 1, .bool _ | _ + 1, .int _ _ | _ + 1, .map none | _ + 1, .complex _ _ _ | _ + 1, .string _ | _ + 1, .pointer none | _ + 1, .nilFunc | _ + 1, .nilIface => true
  | _ + 1, .slice none 0 0 => true
  | _ + 1, .float k b => !isNan k b
  | n + 1, .iface _ v => flat n v
  | n + 1, .agg x | n + 1, .tuple x => x.toList.all (flat n)
  | n + 1, .func _ x y => x.toList.all (flat n) && y.toList.all (flat n)
  | _, _ => false
theorem flat_all {μ : Mu} {n : Nat} (ih : ∀ v v', flat n v = true → VR μ v v' → v' = v) {x x' : Array Value} (hx : x.size = x'.size)
    (h : ∀ i (h : i < x.size) (h' : i < x'.size), VR μ x[i] x'[i]) (hf : x.toList.all (flat n) = true) : x' = x := by
  apply Array.ext hx.symm
  intro i h1 h2
  refine ih _ _ ?_ (h i h2 h1)
  rw [List.all_eq_true] at hf
  exact hf _ (by simp)
theorem flat_eq {μ : Mu} : ∀ (n : Nat) (v v' : Value), flat n v = true → VR μ v v' → v' = v := by
  intro n
  induction n with
  | zero => intro v v' h; simp [flat] at h
  | succ n ih =>
    intro v v' h hr
    cases hr with
    | iface t a b hab => simp only [flat] at h; rw [ih _ _ h hab]
    | agg x x' hx hh => simp only [flat] at h; rw [flat_all ih hx hh h]
    | tuple x x' hx hh => simp only [flat] at h; rw [flat_all ih hx hh h]
    | func fn x y x' y' hx hy h1 h2 =>
      simp only [flat, Bool.and_eq_true] at h
      rw [flat_all ih hx h1 h.1, flat_all ih hy h2 h.2]
    | nan k b b' h1 h2 => simp [flat, h1] at h
    | mapp r b h1 => simp [flat] at h
    | _ => first | rfl | simp [flat] at h
theorem flat_refl {μ : Mu} : ∀ (n : Nat) (v : Value), flat n v = true → VR μ v v := by
  intro n
  induction n with
  | zero => intro v h; simp [flat] at h
  | succ n ih =>
    intro v h
    have all : ∀ x : Array Value, x.toList.all (flat n) = true → ∀ i (h : i < x.size) (h' : i < x.size), VR μ x[i] x[i] := by
      intro x hx i h1 _
      rw [List.all_eq_true] at hx
      exact ih _ (hx _ (by simp))
    cases v with
    | pointer a => cases a with
      | none => exact .pnil
      | some a => simp [flat] at h
    | slice a n c => cases a with
      | none => cases n <;> cases c <;> first | exact .snil | simp [flat] at h
      | some a => simp [flat] at h
    | iface t v => exact .iface t v v (ih _ (by simpa [flat] using h))
    | agg x => exact .agg x x rfl (all x (by simpa only [flat] using h))
    | tuple x => exact .tuple x x rfl (all x (by simpa only [flat] using h))
    | func fn x y =>
      simp only [flat, Bool.and_eq_true] at h
      exact .func fn x y x y rfl rfl (all x h.1) (all y h.2)
    | map r => cases r with
      | none => exact .mnil
      | some r => simp [flat] at h
    | float k b => exact .float k b
    | chan r => simp [flat] at h
    | _ => first | constructor | simp [flat] at h
inductive Ob where
  | cells (sy : Bool) | iter | map (sy : Bool)
structure Row where
  cells : List Value
  ro : Bool
  ob : Ob
def Row.void (r : Row) : Bool := match r.ob with | .cells _ => r.cells.isEmpty | _ => false
structure Hp where
  rows : Tr Row
  next : Nat
structure Base where
  own : Nat → Prop
  hole : Nat → Prop
def clear (fr : Nat × Nat) (n : Nat) : Prop := fr.1 = fr.2 ∨ n ≤ fr.1
theorem clear.at {lo hi n i : Nat} (h : clear (lo, hi) n) (hi' : i < n) : (decide (lo ≤ i) && decide (i < hi)) = false := by
  rcases h with h | h <;> simp at h ⊢ <;> omega
def flatMap : List MapEntry → List Value
  | [] => []
  | e :: r => e.key :: e.val :: flatMap r
def RowIn (B : Base) (μ : Mu) (w : World) (r : Nat) (row : Row) : Prop :=
  match row.ob with
  | .cells _ => ∃ b o s c e lo hi, μ r = some (b, o, s) ∧ w.heap[b]? = some (.cells c e (lo, hi)) ∧ c.size = s ∧ o + row.cells.length ≤ s ∧
    VRs μ row.cells ((c.toList.drop o).take row.cells.length) ∧ (row.ro = false → B.own b ∧ clear (lo, hi) s) ∧ (row.ro = true → ¬ B.own b)
  | .iter => ∃ b s p, μ r = some (b, 0, 1) ∧ w.heap[b]? = some (.stringIter s p) ∧ row.cells = [.string s, .int .i64 (.ofNat p)] ∧ row.ro = false ∧ B.own b
  | .map _ => ∃ b es t, μ r = some (b, 0, 1) ∧ w.heap[b]? = some (.map es t) ∧ VRs μ row.cells (flatMap es.toList) ∧ row.ro = false ∧ B.own b
theorem RowIn.mu {B : Base} {μ : Mu} {w : World} {r : Nat} {row : Row} (h : RowIn B μ w r row) :
    ∃ b o s x, μ r = some (b, o, s) ∧ w.heap[b]? = some x ∧ (row.ro = false → B.own b) ∧ (row.ro = true → ¬ B.own b) := by
  obtain ⟨cs, ro, ob⟩ := row
  cases ob with
  | cells =>
    obtain ⟨b, o, s, c, e, lo, hi, h1, h2, _, _, _, h6, h7⟩ := h
    exact ⟨b, o, s, _, h1, h2, fun h => (h6 h).1, h7⟩
  | iter =>
    obtain ⟨b, s, p, h1, h2, _, h4, h5⟩ := h
    exact ⟨b, 0, 1, _, h1, h2, fun _ => h5, fun h => by rw [h4] at h; simp at h⟩
  | map =>
    obtain ⟨b, s, p, h1, h2, _, h4, h5⟩ := h
    exact ⟨b, 0, 1, _, h1, h2, fun _ => h5, fun h => by rw [h4] at h; simp at h⟩
def Owns (μ : Mu) (F : Nat → Option Row) (b : Nat) : Prop := ∃ r row o s, F r = some row ∧ row.void = false ∧ row.ro = false ∧ μ r = some (b, o, s)
def GIn (μ : Mu) (w : World) (z b o s : Nat) : Prop := ∃ c e fr, w.heap[b]? = some (.cells c e fr) ∧ c.size = s ∧ o + (gCells z).length ≤ s ∧ VRs μ (gCells z) ((c.toList.drop o).take (gCells z).length)
theorem GIn.kept {μ μ' : Mu} {w w' : World} {z b o s : Nat} (h : GIn μ w z b o s) (hl : Le μ μ') (hb : w'.heap[b]? = w.heap[b]?) : GIn μ' w' z b o s := by
  obtain ⟨c, e, fr, h1, h2, h3, h4⟩ := h
  exact ⟨c, e, fr, hb.trans h1, h2, h3, h4.le hl⟩
theorem GIn.lt {μ : Mu} {w : World} {z b o s : Nat} (h : GIn μ w z b o s) : b < w.heap.size := by
  obtain ⟨c, e, fr, h1, _⟩ := h
  exact (Array.getElem?_eq_some_iff.1 h1).1
def tabNo : Option Nat := none
def tabCells : Array Value := (([1, 10, 100, 1000, 10000, 100000, 1000000, 10000000, 100000000, 1000000000, 10000000000, 100000000000, 1000000000000, 10000000000000, 100000000000000, 1000000000000000, 10000000000000000, 100000000000000000, 1000000000000000000, 10000000000000000000] : List Int).map fun z => Value.int .u64 z).toArray
def TabW (w : World) : Prop := ∀ g, tabNo = some g → ∃ e fr, w.heap[g]? = some (.cells tabCells e fr)
def TabOk (B : Base) (w : World) : Prop := TabW w ∧ ∀ g, tabNo = some g → ¬ B.own g
theorem TabW.lt {w : World} (h : TabW w) {g : Nat} (hg : tabNo = some g) : g < w.heap.size := by
  obtain ⟨e, fr, h1⟩ := h g hg
  exact (Array.getElem?_eq_some_iff.1 h1).1
theorem TabOk.kept {B : Base} {w w' : World} (h : TabOk B w) (hb : ∀ b, b < w.heap.size → ¬ B.own b → w'.heap[b]? = w.heap[b]?) : TabOk B w' :=
  ⟨fun g hg => by rw [hb g (h.1.lt hg) (h.2 g hg)]; exact h.1 g hg, h.2⟩
theorem TabOk.base {w : World} (h : TabW w) : TabOk ⟨fun b => w.heap.size ≤ b, fun _ => False⟩ w := ⟨h, fun g hg ho => by have := h.lt hg; simp only at ho; omega⟩
structure WR (B : Base) (μ : Mu) (F : Nat → Option Row) (next : Nat) (w : World) : Prop where
  base : ∀ b, w.heap.size ≤ b → B.own b
  hole : ∀ z, B.hole z → μ z = none ∧ z < next
  fresh : ∀ r, next ≤ r → r < Tr.top → μ r = none
  rows : ∀ r row, F r = some row → row.void = false → RowIn B μ w r row
  vrow : ∀ r row, F r = some row → row.void = true → ∃ b o s, μ r = some (b, o, s) ∧ (row.ro = false → s = 0)
  apart : ∀ r q x y b o s o' s', F r = some x → F q = some y → x.void = false → y.void = false → x.ro = false → y.ro = false → μ r = some (b, o, s) → μ q = some (b, o', s') → r = q
  gho : ∀ z i b o s, μ (gAt z i) = some (b, o, s) → GIn μ w z b o s ∧ ¬ Owns μ F b
  gfr : ∃ K, ∀ z i, K ≤ i → μ (gAt z i) = none
  tab : TabOk B w
theorem WR.owned {B : Base} {μ : Mu} {F : Nat → Option Row} {n : Nat} {w : World} (h : WR B μ F n w) {b : Nat} (ho : Owns μ F b) : B.own b := by
  obtain ⟨r, row, o, s, h1, h2, h3, h4⟩ := ho
  obtain ⟨b', o', s', x, m1, _, m3, _⟩ := (h.rows r row h1 h2).mu
  rw [h4] at m1
  simp only [Option.some.injEq, Prod.mk.injEq] at m1
  rw [m1.1]; exact m3 h3
structure Keep (μ : Mu) (F : Nat → Option Row) (w : World) (μ' : Mu) (F' : Nat → Option Row) (w' : World) : Prop where
  os : w'.os = w.os
  tape : w'.tape = w.tape
  output : w'.output = w.output
  size : w.heap.size ≤ w'.heap.size
  block : ∀ b, b < w.heap.size → ¬ Owns μ F b → w'.heap[b]? = w.heap[b]?
  owns : ∀ b, Owns μ' F' b → Owns μ F b ∨ w.heap.size ≤ b
  gnew : ∀ z i b o s, μ' (gAt z i) = some (b, o, s) → μ (gAt z i) = some (b, o, s) ∨ Owns μ F b ∨ w.heap.size ≤ b
theorem Keep.refl (μ : Mu) (F : Nat → Option Row) (w : World) : Keep μ F w μ F w := ⟨rfl, rfl, rfl, Nat.le_refl _, fun _ _ _ => rfl, fun _ h => .inl h, fun _ _ _ _ _ h => .inl h⟩
theorem Keep.trans {μ μ1 μ2 : Mu} {F F1 F2 : Nat → Option Row} {w w1 w2 : World} (h : Keep μ F w μ1 F1 w1) (k : Keep μ1 F1 w1 μ2 F2 w2) : Keep μ F w μ2 F2 w2 :=
  ⟨k.os.trans h.os, k.tape.trans h.tape, k.output.trans h.output, Nat.le_trans h.size k.size,
   fun b hb hn => by
    rw [k.block b (Nat.lt_of_lt_of_le hb h.size) (fun ho => ?_)]
    · exact h.block b hb hn
    · rcases h.owns b ho with h1 | h1
      · exact hn h1
      · omega,
   fun b hb => by
    rcases k.owns b hb with h1 | h1
    · exact h.owns b h1
    · exact .inr (Nat.le_trans h.size h1),
   fun z i b o s hg => by
    rcases k.gnew z i b o s hg with h1 | h1 | h1
    · exact h.gnew z i b o s h1
    · exact .inr (h.owns b h1)
    · exact .inr (.inr (Nat.le_trans h.size h1))⟩
theorem WR.drew {B : Base} {μ : Mu} {F : Nat → Option Row} {n : Nat} {w : World} (h : WR B μ F n w) (d : Nat) : WR B μ F n { w with drawn := d } :=
  ⟨h.base, h.hole, h.fresh, fun r row hr => h.rows r row hr, h.vrow, h.apart, fun z i b o s hg => h.gho z i b o s hg, h.gfr, ⟨fun g hg => h.tab.1 g hg, h.tab.2⟩⟩
theorem Keep.drew (μ : Mu) (F : Nat → Option Row) (w : World) (d : Nat) : Keep μ F w μ F { w with drawn := d } :=
  ⟨rfl, rfl, rfl, Nat.le_refl _, fun _ _ _ => rfl, fun _ h => .inl h, fun _ _ _ _ _ h => .inl h⟩
theorem RowIn.lt {B : Base} {μ : Mu} {w : World} {r : Nat} {row : Row} (h : RowIn B μ w r row) {b o s : Nat} (hm : μ r = some (b, o, s)) : b < w.heap.size := by
  obtain ⟨b', o', s', x, h1, h2, _⟩ := h.mu
  rw [hm] at h1
  simp only [Option.some.injEq, Prod.mk.injEq] at h1
  obtain ⟨rfl, _, _⟩ := h1
  exact (Array.getElem?_eq_some_iff.1 h2).1
theorem RowIn.kept {B : Base} {μ μ' : Mu} {w w' : World} {r : Nat} {row : Row} (h : RowIn B μ w r row) (hl : Le μ μ') (hb : ∀ b o s, μ r = some (b, o, s) → w'.heap[b]? = w.heap[b]?) : RowIn B μ' w' r row := by
  obtain ⟨cs, ro, ob⟩ := row
  cases ob with
  | cells =>
    obtain ⟨b, o, s, c, e, lo, hi, h1, h2, h3, h4, h5, h6⟩ := h
    exact ⟨b, o, s, c, e, lo, hi, hl _ _ h1, (hb b o s h1).trans h2, h3, h4, h5.le hl, h6⟩
  | iter =>
    obtain ⟨b, s, p, h1, h2, h3⟩ := h
    exact ⟨b, s, p, hl _ _ h1, (hb b _ _ h1).trans h2, h3⟩
  | map =>
    obtain ⟨b, es, t, h1, h2, h3, h4⟩ := h
    exact ⟨b, es, t, hl _ _ h1, (hb b _ _ h1).trans h2, h3.le hl, h4⟩
end Go.Ev
namespace Go.Ev
open Go.RowKit
def ovr {α : Type} (L : List α) (p : Nat) (vs : List α) : List α := L.take p ++ (vs ++ L.drop (p + vs.length))
theorem ovr_length {α : Type} (L : List α) (p : Nat) (vs : List α) (h : p + vs.length ≤ L.length) : (ovr L p vs).length = L.length := by simp [ovr]; omega
theorem ovr_nil {α : Type} (L : List α) (p : Nat) : ovr L p [] = L := by simp [ovr]
theorem ovr_get {α : Type} (L : List α) (p : Nat) (vs : List α) (h : p + vs.length ≤ L.length) (i : Nat) :
    (ovr L p vs)[i]? = if p ≤ i ∧ i < p + vs.length then vs[i - p]? else L[i]? := by
  unfold ovr
  by_cases h1 : i < p
  · rw [List.getElem?_append_left (by simp; omega), List.getElem?_take, if_pos h1, if_neg (by omega)]
  · rw [List.getElem?_append_right (by simp; omega)]
    have e : min p L.length = p := by omega
    rw [List.length_take, e]
    by_cases h2 : i < p + vs.length
    · rw [List.getElem?_append_left (by omega), if_pos ⟨by omega, h2⟩]
    · rw [List.getElem?_append_right (by omega), List.getElem?_drop, if_neg (by omega)]
      congr 1; omega
theorem ovr_cons {α : Type} (L : List α) (p : Nat) (v : α) (vs : List α) (h : p + (vs.length + 1) ≤ L.length) : ovr (L.set p v) (p + 1) vs = ovr L p (v :: vs) := by
  apply List.ext_getElem?
  intro i
  rw [ovr_get _ _ _ (by simp; omega), ovr_get _ _ _ (by simpa using h)]
  by_cases h1 : i = p
  · subst h1
    rw [if_neg (by omega), if_pos ⟨by omega, by simp⟩]
    simp [List.getElem?_set]; omega
  · by_cases h2 : p < i ∧ i < p + 1 + vs.length
    · rw [if_pos ⟨by omega, h2.2⟩, if_pos ⟨by omega, by simp; omega⟩]
      obtain ⟨j, hj⟩ : ∃ j, i - p = j + 1 := ⟨i - p - 1, by omega⟩
      rw [hj, List.getElem?_cons_succ]
      congr 1; omega
    · rw [if_neg (by omega), if_neg (by simp; omega), List.getElem?_set, if_neg (fun e => h1 e.symm)]
structure Oth (b : Nat) (w w' : World) : Prop where
  os : w'.os = w.os
  tape : w'.tape = w.tape
  output : w'.output = w.output
  size : w'.heap.size = w.heap.size
  block : ∀ k, k ≠ b → w'.heap[k]? = w.heap[k]?
theorem Oth.refl (b : Nat) (w : World) : Oth b w w := ⟨rfl, rfl, rfl, rfl, fun _ _ => rfl⟩
theorem Oth.trans {b : Nat} {w w1 w2 : World} (h : Oth b w w1) (k : Oth b w1 w2) : Oth b w w2 :=
  ⟨k.os.trans h.os, k.tape.trans h.tape, k.output.trans h.output, k.size.trans h.size, fun i hi => (k.block i hi).trans (h.block i hi)⟩
theorem setCell_at {w : World} {b : Nat} {c : Array Value} {e : TypeId} {fr : Nat × Nat} (h : w.heap[b]? = some (.cells c e fr)) (p : Nat) (v : Value) :
    (w.setCell ⟨b, p, none⟩ v).heap[b]? = some (.cells (c.setIfInBounds p v) e fr) ∧ Oth b w (w.setCell ⟨b, p, none⟩ v) := by
  refine ⟨?_, rfl, rfl, rfl, by simp [World.setCell], fun k hk => ?_⟩
  · simp [World.setCell, Array.getElem?_modify, h]
  · simp only [World.setCell, Array.getElem?_modify]
    rw [if_neg (fun e => hk e.symm)]
theorem add_none (b o i : Nat) : (⟨b, o, none⟩ : Addr).add i = ⟨b, o + i, none⟩ := by unfold Addr.add; split <;> simp_all
theorem cell_at {w : World} {b : Nat} {c : Array Value} {e : TypeId} {fr : Nat × Nat} (h : w.heap[b]? = some (.cells c e fr)) (p : Nat) : w.cell? ⟨b, p, none⟩ = c[p]? := by
  simp [World.cell?, h]
theorem frozen_at {w : World} {b : Nat} {c : Array Value} {e : TypeId} {fr : Nat × Nat} (h : w.heap[b]? = some (.cells c e fr)) (p : Nat) : w.frozen? ⟨b, p, none⟩ = (decide (fr.1 ≤ p) && decide (p < fr.2)) := by
  obtain ⟨lo, hi⟩ := fr
  simp [World.frozen?, h]
section
variable {P : Program}
theorem run_storeCells_blk (b o : Nat) (e : TypeId) (fr : Nat × Nat) : ∀ (vs : List Value) (i : Nat) (c : Array Value) (w : World), w.heap[b]? = some (.cells c e fr) →
    o + i + vs.length ≤ c.size → (∀ v ∈ vs, v.oneCell' = true) → clear fr c.size →
    ∃ w', (storeCells ⟨b, o, none⟩ vs i).run P w = .ok () w' ∧ w'.heap[b]? = some (.cells (ovr c.toList (o + i) vs).toArray e fr) ∧ Oth b w w' := by
  intro vs
  induction vs with
  | nil => intro i c w h _ _ _; exact ⟨w, rfl, by rw [ovr_nil]; simpa using h, Oth.refl _ _⟩
  | cons v vs ih =>
    intro i c w h hs h1 hf
    simp only [List.length_cons] at hs
    obtain ⟨hc, ho⟩ := setCell_at h (o + i) v
    obtain ⟨w', hr, hb, hoth⟩ := ih (i + 1) (c.setIfInBounds (o + i) v) (w.setCell ⟨b, o + i, none⟩ v) hc (by simp; omega) (fun u hu => h1 u (by simp [hu])) (by simpa using hf)
    refine ⟨w', ?_, ?_, ho.trans hoth⟩
    · unfold storeCells
      simp only [add_none]
      rw [Sem.run_bind, run_store P w _ v _ (h1 v (by simp)), cell_at h, Array.getElem?_eq_getElem (by omega)]
      simp only [frozen_at h, hf.at (by omega : o + i < c.size), Bool.false_eq_true, if_false, Result.andThen_ok]
      exact hr
    · rw [hb]
      congr 3
      simp only [Array.toList_setIfInBounds]
      rw [show o + (i + 1) = o + i + 1 by omega]
      exact ovr_cons _ _ _ _ (by simpa using hs)
theorem run_loadCells_blk {b o n : Nat} {e : TypeId} {fr : Nat × Nat} {c : Array Value} {w : World} (h : w.heap[b]? = some (.cells c e fr)) (hs : o + n ≤ c.size) :
    (loadCells ⟨b, o, none⟩ n).run P w = .ok ((c.toList.drop o).take n).toArray w := by
  have hl : ((c.toList.drop o).take n).length = n := by simp; omega
  have := run_loadCells_list (P := P) (w := w) ⟨b, o, none⟩ ((c.toList.drop o).take n) (fun j v hj => by
    rw [add_none, cell_at h]
    rw [List.getElem?_take] at hj
    split at hj
    · rw [List.getElem?_drop] at hj
      simpa using hj
    · simp at hj)
  rwa [hl] at this
end
def setF (F : Nat → Option Row) (q : Nat) (x : Option Row) : Nat → Option Row := fun r => if r = q then x else F r
def setM (μ : Mu) (q : Nat) (x : Nat × Nat × Nat) : Mu := fun r => if r = q then some x else μ r
theorem le_setM {μ : Mu} {q : Nat} (h : μ q = none) (x : Nat × Nat × Nat) : Le μ (setM μ q x) := by
  intro r p hp
  unfold setM
  split
  · rename_i e; subst e; rw [h] at hp; simp at hp
  · exact hp
theorem setM_g {μ : Mu} {q : Nat} (hq : q < Tr.top) (x : Nat × Nat × Nat) (z i : Nat) : setM μ q x (gAt z i) = μ (gAt z i) := by
  unfold setM
  rw [if_neg]
  have := gAt_ge z i
  omega
section steps
variable {B : Base} {n : Nat} {μ : Mu} {F : Nat → Option Row} {w : World}
theorem WR.gho_kept (h : WR B μ F n w) {μ' : Mu} {F' : Nat → Option Row} {w' : World} (hl : Le μ μ') (hg : ∀ z i, μ' (gAt z i) = μ (gAt z i)) (hb : ∀ b, b < w.heap.size → ¬ Owns μ F b → w'.heap[b]? = w.heap[b]?) (ho : ∀ b, Owns μ' F' b → Owns μ F b ∨ w.heap.size ≤ b) :
    ∀ z i b o s, μ' (gAt z i) = some (b, o, s) → GIn μ' w' z b o s ∧ ¬ Owns μ' F' b := by
  intro z i b o s hm
  rw [hg] at hm
  obtain ⟨g1, g2⟩ := h.gho z i b o s hm
  refine ⟨g1.kept hl (hb b g1.lt g2), fun h1 => ?_⟩
  rcases ho b h1 with h2 | h2
  · exact g2 h2
  · have := g1.lt; omega
theorem WR.gfr_kept (h : WR B μ F n w) {μ' : Mu} (hg : ∀ z i, μ' (gAt z i) = μ (gAt z i)) : ∃ K, ∀ z i, K ≤ i → μ' (gAt z i) = none := by
  obtain ⟨K, hK⟩ := h.gfr
  exact ⟨K, fun z i hi => (hg z i).trans (hK z i hi)⟩
theorem WR.alloc (h : WR B μ F n w) {q n' : Nat} (hqt : q < Tr.top) (hq : μ q = none) (hz : ¬ B.hole q) (hn : q < n') (hn' : n ≤ n') {cs : List Value} {c : Array Value} {sy : Bool} (e : TypeId) (fr : Nat × Nat) (hf : clear fr c.size)
    (hv : VRs μ cs (c.toList.take cs.length)) (hl : cs.length ≤ c.size) (hz0 : cs = [] → c.size = 0) (w' : World) (hw : w'.heap = w.heap.push (.cells c e fr)) (h1 : w'.os = w.os) (h2 : w'.tape = w.tape) (h3 : w'.output = w.output) :
    WR B (setM μ q (w.heap.size, 0, c.size)) (setF F q (some ⟨cs, false, .cells sy⟩)) n' w' ∧
    Keep μ F w (setM μ q (w.heap.size, 0, c.size)) (setF F q (some ⟨cs, false, .cells sy⟩)) w' := by
  have hle := le_setM hq (w.heap.size, 0, c.size)
  have hold : ∀ k, k < w.heap.size → w'.heap[k]? = w.heap[k]? := by
    intro k hk; rw [hw, Array.getElem?_push, if_neg (by omega)]
  have hnew : w'.heap[w.heap.size]? = some (.cells c e fr) := by rw [hw]; simp
  have hown : ∀ b, Owns (setM μ q (w.heap.size, 0, c.size)) (setF F q (some ⟨cs, false, .cells sy⟩)) b → Owns μ F b ∨ w.heap.size ≤ b := by
    intro b hb
    obtain ⟨r, row, o, s, hr, hvd, hro, hm⟩ := hb
    by_cases e1 : r = q
    · subst e1; simp [setM] at hm; exact .inr (by omega)
    · unfold setF at hr; unfold setM at hm
      rw [if_neg e1] at hr hm
      exact .inl ⟨r, row, o, s, hr, hvd, hro, hm⟩
  refine ⟨⟨?_, ?_, ?_, ?_, ?_, ?_, h.gho_kept hle (setM_g hqt _) (fun b hb _ => hold b hb) hown, h.gfr_kept (setM_g hqt _), h.tab.kept (fun b hb _ => hold b hb)⟩, h1, h2, h3, ?_, fun b hb _ => hold b hb, ?_, fun z i b o s hg => .inl ((setM_g hqt _ z i).symm.trans hg)⟩
  · intro b hb; rw [hw, Array.size_push] at hb; exact h.base b (by omega)
  · intro z hz'
    have h0 := h.hole z hz'
    have : z ≠ q := fun e => hz (e ▸ hz')
    exact ⟨by unfold setM; rw [if_neg this]; exact h0.1, by omega⟩
  · intro r hr hr2
    unfold setM
    rw [if_neg (by omega)]
    exact h.fresh r (by omega) hr2
  · intro r row hr hvd
    unfold setF at hr
    split at hr
    · rename_i e0; subst e0
      simp at hr; subst hr
      obtain ⟨lo, hi⟩ := fr
      refine ⟨w.heap.size, 0, c.size, c, e, lo, hi, by simp [setM], hnew, rfl, by simpa using hl, ?_, fun _ => ⟨h.base _ (Nat.le_refl _), hf⟩, by simp⟩
      simpa using hv.le hle
    · refine (h.rows r row hr hvd).kept hle fun b o s hm => hold b ((h.rows r row hr hvd).lt hm)
  · intro r row hr hvd
    unfold setF at hr
    split at hr
    · rename_i e0; subst e0
      simp at hr; subst hr
      exact ⟨w.heap.size, 0, c.size, by simp [setM], fun _ => hz0 (by simpa [Row.void] using hvd)⟩
    · obtain ⟨b, o, s, h4, h5⟩ := h.vrow r row hr hvd
      exact ⟨b, o, s, hle _ _ h4, h5⟩
  · intro r1 r2 x y b o s o' s' hx hy hxv hyv hxr hyr hm1 hm2
    have key : ∀ r row b o s, setF F q (some ⟨cs, false, .cells sy⟩) r = some row → setM μ q (w.heap.size, 0, c.size) r = some (b, o, s) → row.void = false → r ≠ q → F r = some row ∧ μ r = some (b, o, s) ∧ b < w.heap.size := by
      intro r row b o s hr hm hvd hne
      unfold setF at hr; unfold setM at hm
      rw [if_neg hne] at hr hm
      exact ⟨hr, hm, (h.rows r row hr hvd).lt hm⟩
    by_cases e1 : r1 = q
    · by_cases e2 : r2 = q
      · omega
      · obtain ⟨_, _, hlt⟩ := key r2 y b o' s' hy hm2 hyv e2
        subst e1
        simp [setM] at hm1
        omega
    · obtain ⟨a1, a2, hlt⟩ := key r1 x b o s hx hm1 hxv e1
      by_cases e2 : r2 = q
      · subst e2
        simp [setM] at hm2
        omega
      · obtain ⟨b1, b2, _⟩ := key r2 y b o' s' hy hm2 hyv e2
        exact h.apart r1 r2 x y b o s o' s' a1 b1 hxv hyv hxr hyr a2 b2
  · rw [hw, Array.size_push]; omega
  · exact hown
theorem WR.allocVoid (h : WR B μ F n w) {q n' : Nat} (hqt : q < Tr.top) (hq : μ q = none) (hz : ¬ B.hole q) (hn : q < n') (hn' : n ≤ n') {c : Array Value} {sy : Bool} (e : TypeId) (fr : Nat × Nat)
    (w' : World) (hw : w'.heap = w.heap.push (.cells c e fr)) (h1 : w'.os = w.os) (h2 : w'.tape = w.tape) (h3 : w'.output = w.output) :
    WR B (setM μ q (w.heap.size, 0, c.size)) (setF F q (some ⟨[], true, .cells sy⟩)) n' w' ∧
    Keep μ F w (setM μ q (w.heap.size, 0, c.size)) (setF F q (some ⟨[], true, .cells sy⟩)) w' := by
  have hle := le_setM hq (w.heap.size, 0, c.size)
  have hold : ∀ k, k < w.heap.size → w'.heap[k]? = w.heap[k]? := by
    intro k hk; rw [hw, Array.getElem?_push, if_neg (by omega)]
  have hown : ∀ b, Owns (setM μ q (w.heap.size, 0, c.size)) (setF F q (some ⟨[], true, .cells sy⟩)) b → Owns μ F b ∨ w.heap.size ≤ b := by
    intro b hb
    obtain ⟨r, row, o, s, hr, hvd, hro, hm⟩ := hb
    by_cases e1 : r = q
    · subst e1; simp [setM] at hm; exact .inr (by omega)
    · unfold setF at hr; unfold setM at hm
      rw [if_neg e1] at hr hm
      exact .inl ⟨r, row, o, s, hr, hvd, hro, hm⟩
  refine ⟨⟨?_, ?_, ?_, ?_, ?_, ?_, h.gho_kept hle (setM_g hqt _) (fun b hb _ => hold b hb) hown, h.gfr_kept (setM_g hqt _), h.tab.kept (fun b hb _ => hold b hb)⟩, h1, h2, h3, ?_, fun b hb _ => hold b hb, ?_, fun z i b o s hg => .inl ((setM_g hqt _ z i).symm.trans hg)⟩
  · intro b hb; rw [hw, Array.size_push] at hb; exact h.base b (by omega)
  · intro z hz'
    have h0 := h.hole z hz'
    have : z ≠ q := fun e => hz (e ▸ hz')
    exact ⟨by unfold setM; rw [if_neg this]; exact h0.1, by omega⟩
  · intro r hr hr2
    unfold setM
    rw [if_neg (by omega)]
    exact h.fresh r (by omega) hr2
  · intro r row hr hvd
    unfold setF at hr
    split at hr
    · rename_i e0; subst e0
      simp at hr; subst hr
      simp [Row.void] at hvd
    · refine (h.rows r row hr hvd).kept hle fun b o s hm => hold b ((h.rows r row hr hvd).lt hm)
  · intro r row hr hvd
    unfold setF at hr
    split at hr
    · rename_i e0; subst e0
      simp at hr; subst hr
      exact ⟨w.heap.size, 0, c.size, by simp [setM], fun h => by simp at h⟩
    · obtain ⟨b, o, s, h4, h5⟩ := h.vrow r row hr hvd
      exact ⟨b, o, s, hle _ _ h4, h5⟩
  · intro r1 r2 x y b o s o' s' hx hy hxv hyv hxr hyr hm1 hm2
    have key : ∀ r row b o s, setF F q (some ⟨[], true, .cells sy⟩) r = some row → setM μ q (w.heap.size, 0, c.size) r = some (b, o, s) → row.void = false → r ≠ q → F r = some row ∧ μ r = some (b, o, s) ∧ b < w.heap.size := by
      intro r row b o s hr hm hvd hne
      unfold setF at hr; unfold setM at hm
      rw [if_neg hne] at hr hm
      exact ⟨hr, hm, (h.rows r row hr hvd).lt hm⟩
    by_cases e1 : r1 = q
    · by_cases e2 : r2 = q
      · omega
      · obtain ⟨_, _, hlt⟩ := key r2 y b o' s' hy hm2 hyv e2
        subst e1
        simp [setM] at hm1
        omega
    · obtain ⟨a1, a2, hlt⟩ := key r1 x b o s hx hm1 hxv e1
      by_cases e2 : r2 = q
      · subst e2
        simp [setM] at hm2
        omega
      · obtain ⟨b1, b2, _⟩ := key r2 y b o' s' hy hm2 hyv e2
        exact h.apart r1 r2 x y b o s o' s' a1 b1 hxv hyv hxr hyr a2 b2
  · rw [hw, Array.size_push]; omega
  · exact hown
theorem WR.rewrite (h : WR B μ F n w) {r q n' : Nat} {row row' : Row} {b o s o' : Nat} (hr : F r = some row) (hvd : row.void = false) (hro : row.ro = false) (hm : μ r = some (b, o, s)) (hn' : n ≤ n') {μ' : Mu} (hle : Le μ μ')
    (hfresh : ∀ x, n' ≤ x → x < Tr.top → μ' x = none) (hz : ∀ z, B.hole z → μ' z = none) {w' : World} (ho : Oth b w w') (hq : RowIn B μ' w' q row') (hqo : row'.ro = false) (hqv : row'.void = true → s = 0) (hmq : μ' q = some (b, o', s))
    (hsame : ∀ x, x ≠ r → x ≠ q → ∀ y, μ' x = some y → F x ≠ none → μ x = some y) (hgh : ∀ z i, μ' (gAt z i) = μ (gAt z i)) :
    WR B μ' (setF (setF F r none) q (some row')) n' w' ∧ Keep μ F w μ' (setF (setF F r none) q (some row')) w' := by
  have hown : Owns μ F b := ⟨r, row, o, s, hr, hvd, hro, hm⟩
  have cases' : ∀ x y, setF (setF F r none) q (some row') x = some y → (x = q ∧ y = row') ∨ (x ≠ q ∧ x ≠ r ∧ F x = some y) := by
    intro x y hx
    unfold setF at hx
    split at hx
    · rename_i e; simp at hx; exact .inl ⟨e, hx.symm⟩
    · rename_i e
      split at hx
      · simp at hx
      · rename_i e2; exact .inr ⟨e, e2, hx⟩
  have hroblk : ∀ x y b' o1 s1, F x = some y → y.void = false → y.ro = true → μ x = some (b', o1, s1) → b' ≠ b := by
    intro x y b' o1 s1 hx hyv hy hxm e
    subst e
    obtain ⟨b1, _, _, _, m1, _, _, m2⟩ := (h.rows x y hx hyv).mu
    obtain ⟨b2, _, _, _, m3, _, m4, _⟩ := (h.rows r row hr hvd).mu
    rw [hxm] at m1; rw [hm] at m3
    simp at m1 m3
    have k1 := m2 hy; have k2 := m4 hro
    rw [← m1.1] at k1; rw [← m3.1] at k2
    exact k1 k2
  have hblk : ∀ x y b' o1 s1, x ≠ r → F x = some y → y.void = false → μ x = some (b', o1, s1) → b' ≠ b := by
    intro x y b' o1 s1 hxr hx hyv hxm e
    cases hy : y.ro with
    | true => exact hroblk x y b' o1 s1 hx hyv hy hxm e
    | false => subst e; exact hxr (h.apart x r y row b' o1 s1 o s hx hr hyv hvd hy hro hxm hm)
  have hownN : ∀ b', Owns μ' (setF (setF F r none) q (some row')) b' → Owns μ F b' ∨ w.heap.size ≤ b' := by
    intro b' hb'
    obtain ⟨x, y, o1, s1, hx, hyv, hy, hxm⟩ := hb'
    rcases cases' x y hx with ⟨rfl, rfl⟩ | ⟨c1, c2, c3⟩
    · rw [hmq] at hxm; simp at hxm
      exact .inl (hxm.1 ▸ hown)
    · exact .inl ⟨x, y, o1, s1, c3, hyv, hy, hsame x c2 c1 _ hxm (by simp [c3])⟩
  refine ⟨⟨by rw [ho.size]; exact h.base, fun z hz' => ⟨hz z hz', by have := (h.hole z hz').2; omega⟩, hfresh, ?_, ?_, ?_, h.gho_kept hle hgh (fun b' _ hno => ho.block b' (fun e => hno (e ▸ hown))) hownN, h.gfr_kept hgh, h.tab.kept (fun b' _ hno => ho.block b' (fun e => hno (e ▸ h.owned hown)))⟩, ho.os, ho.tape, ho.output, by rw [ho.size]; exact Nat.le_refl _, ?_, ?_, fun z i b1 o1 s1 hg => .inl ((hgh z i).symm.trans hg)⟩
  · intro x y hx hyv
    rcases cases' x y hx with ⟨rfl, rfl⟩ | ⟨h1, h2, h3⟩
    · exact hq
    · exact (h.rows x y h3 hyv).kept hle fun b' o1 s1 hb' => ho.block b' (hblk x y b' o1 s1 h2 h3 hyv hb')
  · intro x y hx hyv
    rcases cases' x y hx with ⟨rfl, rfl⟩ | ⟨h1, h2, h3⟩
    · exact ⟨b, o', s, hmq, fun _ => hqv hyv⟩
    · obtain ⟨b1, o1, s1, h4, h5⟩ := h.vrow x y h3 hyv
      exact ⟨b1, o1, s1, hle _ _ h4, h5⟩
  · intro x1 x2 y1 y2 b' o1 s1 o2 s2 hx1 hx2 hv1 hv2 hy1 hy2 hm1 hm2
    rcases cases' x1 y1 hx1 with ⟨rfl, rfl⟩ | ⟨a1, a2, a3⟩
    · rcases cases' x2 y2 hx2 with ⟨rfl, rfl⟩ | ⟨c1, c2, c3⟩
      · rfl
      · have := hsame x2 c2 c1 _ hm2 (by simp [c3])
        rw [hmq] at hm1
        simp at hm1
        exact absurd (hm1.1.symm) (hblk x2 y2 b' o2 s2 c2 c3 hv2 this)
    · have hm1' := hsame x1 a2 a1 _ hm1 (by simp [a3])
      rcases cases' x2 y2 hx2 with ⟨rfl, rfl⟩ | ⟨c1, c2, c3⟩
      · rw [hmq] at hm2
        simp at hm2
        exact absurd (hm2.1.symm) (hblk x1 y1 b' o1 s1 a2 a3 hv1 hm1')
      · have hm2' := hsame x2 c2 c1 _ hm2 (by simp [c3])
        exact h.apart x1 x2 y1 y2 b' o1 s1 o2 s2 a3 c3 hv1 hv2 hy1 hy2 hm1' hm2'
  · intro b' hb' hno
    exact ho.block b' (fun e => hno (e ▸ hown))
  · exact hownN
theorem WR.nothing (h : WR B μ F n w) {q n' : Nat} (hqt : q < Tr.top) (hq : μ q = none) (hz : ¬ B.hole q) (hn : q < n') (hn' : n ≤ n') (sy : Bool) :
    WR B (setM μ q (w.heap.size, 0, 0)) (setF F q (some ⟨[], false, .cells sy⟩)) n' w ∧
    Keep μ F w (setM μ q (w.heap.size, 0, 0)) (setF F q (some ⟨[], false, .cells sy⟩)) w := by
  have hle := le_setM hq (w.heap.size, 0, 0)
  have old : ∀ r row, setF F q (some ⟨[], false, .cells sy⟩) r = some row → row.void = false → r ≠ q ∧ F r = some row := by
    intro r row hr hv
    unfold setF at hr
    split at hr
    · simp at hr; subst hr; simp [Row.void] at hv
    · rename_i e; exact ⟨e, hr⟩
  have sm : ∀ r, r ≠ q → setM μ q (w.heap.size, 0, 0) r = μ r := fun r hr => by simp [setM, hr]
  have hown : ∀ b, Owns (setM μ q (w.heap.size, 0, 0)) (setF F q (some ⟨[], false, .cells sy⟩)) b → Owns μ F b ∨ w.heap.size ≤ b := by
    rintro b ⟨r, row, o, s, hr, hv, hro, hm⟩
    obtain ⟨h1, h2⟩ := old _ _ hr hv
    rw [sm _ h1] at hm
    exact .inl ⟨r, row, o, s, h2, hv, hro, hm⟩
  refine ⟨⟨h.base, ?_, ?_, ?_, ?_, ?_, h.gho_kept hle (setM_g hqt _) (fun _ _ _ => rfl) hown, h.gfr_kept (setM_g hqt _), h.tab⟩, rfl, rfl, rfl, Nat.le_refl _, fun b hb _ => rfl, ?_, fun z i b o s hg => .inl ((setM_g hqt _ z i).symm.trans hg)⟩
  · intro z hz'
    have h0 := h.hole z hz'
    have : z ≠ q := fun e => hz (e ▸ hz')
    exact ⟨by rw [sm _ this]; exact h0.1, by omega⟩
  · intro r hr hr2
    rw [sm _ (by omega)]
    exact h.fresh r (by omega) hr2
  · intro r row hr hv
    obtain ⟨h1, h2⟩ := old r row hr hv
    exact (h.rows r row h2 hv).kept hle fun b o s hm => rfl
  · intro r row hr hv
    unfold setF at hr
    split at hr
    · rename_i e; subst e
      simp at hr; subst hr
      exact ⟨w.heap.size, 0, 0, by simp [setM], fun _ => rfl⟩
    · obtain ⟨b, o, s, h4, h5⟩ := h.vrow r row hr hv
      exact ⟨b, o, s, hle _ _ h4, h5⟩
  · intro r1 r2 x y b o s o' s' hx hy hxv hyv hxr hyr hm1 hm2
    obtain ⟨a1, a2⟩ := old _ _ hx hxv
    obtain ⟨b1, b2⟩ := old _ _ hy hyv
    rw [sm _ a1] at hm1; rw [sm _ b1] at hm2
    exact h.apart r1 r2 x y b o s o' s' a2 b2 hxv hyv hxr hyr hm1 hm2
  · exact hown
end steps
end Go.Ev
namespace Go.Ev
noncomputable section
open Go.RowKit
def pureRun {α : Type} (P : Program) : Sem α → Option α
  | .pure a => some a
  | .program k => pureRun P (k P)
  | .mark _ k => pureRun P k
  | _ => none
theorem pureRun_sound {α : Type} {P : Program} {a : α} : ∀ (s : Sem α), pureRun P s = some a → ∀ w, s.run P w = .ok a w := by
  intro s
  induction s with
  | pure x => intro h w; simp [pureRun] at h; subst h; rfl
  | program k ih => intro h w; simp only [pureRun] at h; simp only [Sem.run]; exact ih P h w
  | mark m k ih => intro h w; simp only [pureRun] at h; simp only [Sem.run]; exact ih h w
  | _ => intro h; simp [pureRun] at h
def szOf (P : Program) (t : TypeId) : Option Nat := (P.info? t).map (·.size)
def aggB (P : Program) (t : TypeId) : Option Bool :=
  match P.underlying t with
  | some (.struct _) | some (.array _ _) => some true
  | some _ => some false
  | none => none
section
variable {P : Program} {w : World}
theorem szOf_run {t : TypeId} {n : Nat} (h : szOf P t = some n) : (sizeOf t).run P w = .ok n w := by
  unfold szOf at h
  cases hi : P.info? t with
  | none => simp [hi] at h
  | some i => simp [hi] at h; subst h; simp [sizeOf, typeInfo, program, Sem.run, hi]
theorem aggB_run {t : TypeId} {b : Bool} (h : aggB P t = some b) : (isAgg t).run P w = .ok b w := by
  unfold aggB at h
  cases hd : P.underlying t with
  | none => simp [hd] at h
  | some d => simp only [isAgg, Sem.run_bind, run_underlying hd, Result.andThen_ok]; cases d <;> simp_all [Sem.run_pure]
end
def cut (l : List Value) (k n : Nat) : Option (List Value) :=
  let x := (l.drop k).take n
  bif Nat.beq x.length n then some x else none
theorem cut_spec {l x : List Value} {k n : Nat} (h : cut l k n = some x) : x = (l.drop k).take n ∧ x.length = n ∧ (n = 0 ∨ k + n ≤ l.length) := by
  unfold cut at h
  cases hb : Nat.beq ((l.drop k).take n).length n with
  | false => simp only [hb, cond_false] at h; simp at h
  | true =>
    simp only [hb, cond_true, Option.some.injEq] at h
    subst h
    have := Nat.eq_of_beq_eq_true hb
    refine ⟨rfl, this, ?_⟩
    simp at this
    omega
def aLoad (P : Program) (rows : Tr Row) (t : TypeId) : Value → Option Value
  | .pointer (some ⟨r, k, none⟩) =>
    match rows.find r with
    | some ⟨cells, _, .cells _⟩ =>
      match aggB P t with
      | some true =>
        match szOf P t with
        | some n => (cut cells k n).map fun l => .agg l.toArray
        | none => none
      | some false => cells[k]?
      | none => none
    | _ => none
  | .pointer (some ⟨z, k, some 0⟩) =>
    match aggB P t with
    | some true =>
      match szOf P t with
      | some n => (cut (gCells z) k n).map fun l => .agg l.toArray
      | none => none
    | some false => (gCells z)[k]?
    | none => none
  | _ => none
section
variable {P : Program} {B : Base} {n : Nat} {μ : Mu} {F : Nat → Option Row} {w : World}
theorem void_cells {cells : List Value} {ro sy : Bool} (h : 0 < cells.length) : (⟨cells, ro, .cells sy⟩ : Row).void = false := by
  cases cells with
  | nil => simp at h
  | cons => rfl
theorem row_cells (hw : WR B μ F n w) {r : Nat} {cells : List Value} {ro sy : Bool} (hr : F r = some ⟨cells, ro, .cells sy⟩) (hne : 0 < cells.length) {k m : Nat} (hk : k + m ≤ cells.length) {b o s : Nat} (hm : μ r = some (b, o, s)) :
    ∃ c e fr, w.heap[b]? = some (.cells c e fr) ∧ c.size = s ∧ o + k + m ≤ c.size ∧ VRs μ ((cells.drop k).take m) ((c.toList.drop (o + k)).take m) := by
  obtain ⟨b', o', s', c, e, lo, hi, h1, h2, h3, h4, h5, _⟩ := hw.rows r _ hr (void_cells hne)
  simp only at h4 h5
  rw [hm] at h1
  simp only [Option.some.injEq, Prod.mk.injEq] at h1
  obtain ⟨rfl, rfl, rfl⟩ := h1
  refine ⟨c, e, (lo, hi), h2, h3, by omega, ?_⟩
  have := (h5.drop k).take m
  have e1 : (((c.toList.drop o).take cells.length).drop k).take m = (c.toList.drop (o + k)).take m := by
    rw [List.drop_take, List.drop_drop, List.take_take]
    congr 1; omega
  rwa [e1] at this
theorem g_cells (hw : WR B μ F n w) {z i : Nat} {k m : Nat} (hk : k + m ≤ (gCells z).length) {b o s : Nat} (hm : μ (gAt z i) = some (b, o, s)) :
    ∃ c e fr, w.heap[b]? = some (.cells c e fr) ∧ c.size = s ∧ o + k + m ≤ c.size ∧ VRs μ (((gCells z).drop k).take m) ((c.toList.drop (o + k)).take m) := by
  obtain ⟨⟨c, e, fr, h2, h3, h4, h5⟩, _⟩ := hw.gho z i b o s hm
  refine ⟨c, e, fr, h2, h3, by omega, ?_⟩
  have := (h5.drop k).take m
  have e1 : (((c.toList.drop o).take (gCells z).length).drop k).take m = (c.toList.drop (o + k)).take m := by
    rw [List.drop_take, List.drop_drop, List.take_take]
    congr 1; omega
  rwa [e1] at this
theorem aLoad_sound {rows : Tr Row} (hw : WR B μ rows.find n w) {t : TypeId} {a a' v : Value} (ha : VR μ a a') (h : aLoad P rows t a = some v) :
    ∃ v', (Instr.loadAt t a').run P w = .ok v' w ∧ VR μ v v' := by
  unfold aLoad at h
  split at h
  · rename_i r k
    cases ha with
    | ptr _ _ b o s hm =>
      cases hr : rows.find r with
      | none => simp [hr] at h
      | some row =>
        obtain ⟨cells, ro, ob⟩ := row
        cases ob with
        | iter => simp [hr] at h
        | map => simp [hr] at h
        | cells =>
        simp only [hr] at h
        cases hg : aggB P t with
        | none => simp [hg] at h
        | some g =>
          cases g with
          | true =>
            simp only [hg] at h
            cases hz : szOf P t with
            | none => simp [hz] at h
            | some m =>
              simp only [hz] at h
              cases hc : cut cells k m with
              | none => simp [hc] at h
              | some l =>
                simp [hc] at h; subst h
                obtain ⟨rfl, hlen, hk⟩ := cut_spec hc
                by_cases hm0 : m = 0
                · subst hm0
                  refine ⟨.agg #[], ?_, ?_⟩
                  · simp [Instr.loadAt, Instr.sureAddr, loadVar, aggB_run hg, szOf_run hz, loadCells, loadCellsFrom]
                  · simp; exact .agg _ _ rfl (fun i h => by simp at h)
                · obtain ⟨c, e, fr, h2, h3, h4, h5⟩ := row_cells hw hr (by omega) (k := k) (m := m) (by omega) hm
                  refine ⟨.agg ((c.toList.drop (o + k)).take m).toArray, ?_, h5.agg⟩
                  simp [Instr.loadAt, Instr.sureAddr, loadVar, aggB_run hg, szOf_run hz, run_loadCells_blk h2 h4]
          | false =>
            simp only [hg] at h
            obtain ⟨b', o', s', c, e, lo, hi, h1, h2, h3, h4, h5, _⟩ := hw.rows r _ hr (void_cells (by have := (List.getElem?_eq_some_iff.1 h).1; omega))
            rw [hm] at h1
            simp only [Option.some.injEq, Prod.mk.injEq] at h1
            obtain ⟨rfl, rfl, rfl⟩ := h1
            obtain ⟨v', hv', hvr⟩ := h5.get h
            have hlt := (List.getElem?_eq_some_iff.1 h).1
            rw [List.getElem?_take, if_pos hlt, List.getElem?_drop] at hv'
            refine ⟨v', ?_, hvr⟩
            have hcell : w.cell? ⟨b, o + k, none⟩ = some v' := by rw [cell_at h2]; simpa using hv'
            simp [Instr.loadAt, Instr.sureAddr, loadVar, aggB_run hg, load, Sem.run, hcell]
  · rename_i z k
    cases ha with
    | gptr _ _ i b o s hm =>
      cases hg : aggB P t with
      | none => simp [hg] at h
      | some g =>
        cases g with
        | true =>
          simp only [hg] at h
          cases hz : szOf P t with
          | none => simp [hz] at h
          | some m =>
            simp only [hz] at h
            cases hc : cut (gCells z) k m with
            | none => simp [hc] at h
            | some l =>
              simp [hc] at h; subst h
              obtain ⟨rfl, hlen, hk⟩ := cut_spec hc
              by_cases hm0 : m = 0
              · subst hm0
                refine ⟨.agg #[], ?_, ?_⟩
                · simp [Instr.loadAt, Instr.sureAddr, loadVar, aggB_run hg, szOf_run hz, loadCells, loadCellsFrom]
                · simp; exact .agg _ _ rfl (fun i h => by simp at h)
              · obtain ⟨c, e, fr, h2, h3, h4, h5⟩ := g_cells hw (k := k) (m := m) (by omega) hm
                refine ⟨.agg ((c.toList.drop (o + k)).take m).toArray, ?_, h5.agg⟩
                simp [Instr.loadAt, Instr.sureAddr, loadVar, aggB_run hg, szOf_run hz, run_loadCells_blk h2 h4]
        | false =>
          simp only [hg] at h
          have hlt := (List.getElem?_eq_some_iff.1 h).1
          obtain ⟨⟨c, e, fr, h2, h3, h4, h5⟩, _⟩ := hw.gho z i b o s hm
          obtain ⟨v', hv', hvr⟩ := h5.get h
          rw [List.getElem?_take, if_pos hlt, List.getElem?_drop] at hv'
          refine ⟨v', ?_, hvr⟩
          have hcell : w.cell? ⟨b, o + k, none⟩ = some v' := by rw [cell_at h2]; simpa using hv'
          simp [Instr.loadAt, Instr.sureAddr, loadVar, aggB_run hg, load, Sem.run, hcell]
  · simp at h
def ibin (op : BinOp) (k : IntKind) (a b : Int) : Option Value :=
  match op with
  | .add => some (.int k (k.wrap (a + b)))
  | .sub => some (.int k (k.wrap (a - b)))
  | .mul => some (.int k (k.wrap (a * b)))
  | .eql => some (.bool (a == b))
  | .neq => some (.bool (a != b))
  | .lss => some (.bool (decide (a < b)))
  | .leq => some (.bool (decide (a ≤ b)))
  | .gtr => some (.bool (decide (a > b)))
  | .geq => some (.bool (decide (a ≥ b)))
  | _ => none
theorem ibin_sound {op : BinOp} {k : IntKind} {a b : Int} {v : Value} (h : ibin op k a b = some v) (t : TypeId) (x y : Operand) :
    (do eqGuard op t x y (.int k a) (.int k b); binOp op t (.int k a) (.int k b) : Sem Value).run P w = .ok v w := by
  cases op <;> simp [ibin] at h <;> subst h <;> simp [eqGuard, binOp, Op.intArith, Op.intCmp]
def sizedB (P : Program) (e : TypeId) : Bool := match szOf P e with | some (_ + 1) => true | _ => false
def aNil (P : Program) (op : BinOp) (t : TypeId) (a b : Value) : Option Value :=
  match P.underlying t, a, b with
  | some (.pointer _), .pointer none, .pointer y => (match op with | .eql => some (.bool y.isNone) | .neq => some (.bool !y.isNone) | _ => none)
  | some (.pointer _), .pointer (some _), .pointer none => (match op with | .eql => some (.bool false) | .neq => some (.bool true) | _ => none)
  | some (.pointer e), .pointer (some ⟨r, k, none⟩), .pointer (some ⟨q, j, none⟩) => bif Nat.beq r q && sizedB P e then (match op with | .eql => some (.bool (Nat.beq k j)) | .neq => some (.bool !(Nat.beq k j)) | _ => none) else none
  | some (.slice _), .slice none _ _, .slice none _ _ => (match op with | .eql => some (.bool true) | .neq => some (.bool false) | _ => none)
  | some (.slice _), .slice none _ _, .slice (some _) (_ + 1) _ => (match op with | .eql => some (.bool false) | .neq => some (.bool true) | _ => none)
  | some (.slice _), .slice (some _) (_ + 1) _, .slice none _ _ => (match op with | .eql => some (.bool false) | .neq => some (.bool true) | _ => none)
  | some (.func _ _ _), .nilFunc, .nilFunc => (match op with | .eql => some (.bool true) | .neq => some (.bool false) | _ => none)
  | some (.func _ _ _), .nilFunc, .func _ _ _ => (match op with | .eql => some (.bool false) | .neq => some (.bool true) | _ => none)
  | some (.func _ _ _), .func _ _ _, .nilFunc => (match op with | .eql => some (.bool false) | .neq => some (.bool true) | _ => none)
  | _, _, _ => none
theorem eqRun {op : BinOp} {t : TypeId} {a b : Value} {r : Bool} {v : Value} (h1 : ∀ op x y, eqGuard op t x y a b = pure ()) (h2 : binOp .eql t a b = (do pure (.bool (← Op.equal t a b)))) (h3 : binOp .neq t a b = (do pure (.bool (!(← Op.equal t a b)))))
    (h4 : (Op.equal t a b).run P w = .ok r w) (h : (match op with | .eql => some (Value.bool r) | .neq => some (.bool !r) | _ => none) = some v) (x y : Operand) :
    (do eqGuard op t x y a b; binOp op t a b : Sem Value).run P w = .ok v w := by
  simp only [h1, Sem.run_bind, Sem.run_pure, Result.andThen_ok]
  cases op <;> simp at h <;> subst h
  · rw [h2]; simp [h4]
  · rw [h3]; simp [h4]
theorem aNil_sound {op : BinOp} {t : TypeId} {a b a' b' v : Value} (ha : VR μ a a') (hb : VR μ b b') (h : aNil P op t a b = some v) (x y : Operand) :
    (do eqGuard op t x y a' b'; binOp op t a' b' : Sem Value).run P w = .ok v w := by
  obtain ⟨d, hdm⟩ : ∃ d, Op.maxDepth = d + 1 := ⟨9999, rfl⟩
  have ep : ∀ (t : TypeId) (p q : Option Addr) (op : BinOp) (x y : Operand), eqGuard op t x y (.pointer p) (.pointer q) = pure () := by intro t p q op x y; cases op <;> rfl
  have es : ∀ (t : TypeId) (p q : Option Addr) (n m c d : Nat) (op : BinOp) (x y : Operand), eqGuard op t x y (.slice p n c) (.slice q m d) = pure () := by intro t p q n m c d op x y; cases op <;> rfl
  unfold aNil at h
  split at h
  · rename_i y0 hd
    cases ha
    cases hb with
    | pnil => exact eqRun (r := true) (ep _ _ _) rfl rfl (by simp [Op.equal, hdm, Op.equalIn, run_underlying hd]) (by simpa using h) x y
    | ptr => exact eqRun (r := false) (ep _ _ _) rfl rfl (by simp [Op.equal, hdm, Op.equalIn, run_underlying hd]) (by simpa using h) x y
    | gptr => exact eqRun (r := false) (ep _ _ _) rfl rfl (by simp [Op.equal, hdm, Op.equalIn, run_underlying hd]) (by simpa using h) x y
  · rename_i hd
    cases hb
    cases ha <;> exact eqRun (r := false) (ep _ _ _) rfl rfl (by simp [Op.equal, hdm, Op.equalIn, run_underlying hd]) (by simpa using h) x y
  · rename_i e r k q j hd
    cases hc : (Nat.beq r q && sizedB P e) with
    | false => rw [hc] at h; simp at h
    | true =>
      rw [hc] at h
      simp only [cond_true] at h
      simp only [Bool.and_eq_true] at hc
      obtain ⟨hrq, hsz⟩ := hc
      have hrq : r = q := Nat.eq_of_beq_eq_true hrq
      subst hrq
      unfold sizedB at hsz
      split at hsz
      · rename_i sz hs
        cases ha with
        | ptr _ _ b o s hm =>
          cases hb with
          | ptr _ _ b2 o2 s2 hm2 =>
            rw [hm] at hm2
            simp only [Option.some.injEq, Prod.mk.injEq] at hm2
            obtain ⟨rfl, rfl, rfl⟩ := hm2
            have hdec : (decide ((⟨b, o + k, none⟩ : Addr) = ⟨b, o + j, none⟩)) = Nat.beq k j := by
              by_cases hkj : k = j
              · subst hkj; simp
              · have h1 : Nat.beq k j = false := by
                  cases hh : Nat.beq k j with
                  | false => rfl
                  | true => exact absurd (Nat.eq_of_beq_eq_true hh) hkj
                rw [h1]
                simp only [Addr.mk.injEq, decide_eq_false_iff_not]
                omega
            refine eqRun (r := Nat.beq k j) (ep _ _ _) rfl rfl ?_ h x y
            simp only [Op.equal, hdm, Op.equalIn, run_underlying hd, Sem.run_bind, Result.andThen_ok, szOf_run hs]
            have hbe : ((⟨b, o + k, none⟩ : Addr) == ⟨b, o + j, none⟩) = Nat.beq k j := hdec
            simp [sameAddr, hbe]
      · simp at hsz
  · rename_i hd
    cases ha
    cases hb
    exact eqRun (r := true) (es _ _ _ _ _ _ _) rfl rfl (by simp [Op.equal, hdm, Op.equalIn, run_underlying hd]) (by simpa using h) x y
  · rename_i hd
    cases ha
    cases hb <;> exact eqRun (r := false) (es _ _ _ _ _ _ _) rfl rfl (by simp [Op.equal, hdm, Op.equalIn, run_underlying hd]) (by simpa using h) x y
  · rename_i hd
    cases hb
    cases ha <;> exact eqRun (r := false) (es _ _ _ _ _ _ _) rfl rfl (by simp [Op.equal, hdm, Op.equalIn, run_underlying hd]) (by simpa using h) x y
  · rename_i hd
    cases ha; cases hb
    exact eqRun (r := true) (by intro op x y; cases op <;> rfl) rfl rfl (by simp [Op.equal, hdm, Op.equalIn, run_underlying hd]) (by simpa using h) x y
  · rename_i hd
    cases ha; cases hb
    exact eqRun (r := false) (by intro op x y; cases op <;> rfl) rfl rfl (by simp [Op.equal, hdm, Op.equalIn, run_underlying hd]) (by simpa using h) x y
  · rename_i hd
    cases ha; cases hb
    exact eqRun (r := false) (by intro op x y; cases op <;> rfl) rfl rfl (by simp [Op.equal, hdm, Op.equalIn, run_underlying hd]) (by simpa using h) x y
  · simp at h
def aField (P : Program) (s : TypeId) (f : Nat) : Value → Option Value
  | .pointer (some ⟨r, k, none⟩) =>
    match P.underlying s with
    | some (.struct fields) =>
      match fields[f]? with
      | some fd => (match szOf P fd.type with | some 0 => none | none => none | some _ => some (.pointer (some ⟨r, k + fd.offset, none⟩)))
      | none => none
    | _ => none
  | .pointer (some ⟨r, k, some 0⟩) =>
    match P.underlying s with
    | some (.struct fields) =>
      match fields[f]? with
      | some fd => (match szOf P fd.type with | some 0 => none | none => none | some _ => some (.pointer (some ⟨r, k + fd.offset, some 0⟩)))
      | none => none
    | _ => none
  | _ => none
theorem aField_sound {s : TypeId} {f : Nat} {a a' v : Value} (ha : VR μ a a') (h : aField P s f a = some v) : ∃ v', (Instr.fieldAt s a' f).run P w = .ok v' w ∧ VR μ v v' := by
  unfold aField at h
  split at h
  · rename_i r k
    cases ha with
    | ptr _ _ b o s' hm =>
      split at h
      · rename_i fields hd
        split at h
        · rename_i fd hf
          split at h
          · simp at h
          · simp at h
          · rename_i m hz' hz
            simp at h; subst h
            refine ⟨_, ?_, .ptr r (k + fd.offset) b o s' hm⟩
            simp [Instr.fieldAt, run_underlying hd, hf, Instr.sureAddr, fieldPlace, szOf_run hz, show (m = 0) = False from propext ⟨hz', False.elim⟩, add_none, Nat.add_assoc]
        · simp at h
      · simp at h
  · rename_i r k
    cases ha with
    | gptr _ _ i b o s' hm =>
      split at h
      · rename_i fields hd
        split at h
        · rename_i fd hf
          split at h
          · simp at h
          · simp at h
          · rename_i m hz' hz
            simp at h; subst h
            refine ⟨_, ?_, .gptr r (k + fd.offset) i b o s' hm⟩
            simp [Instr.fieldAt, run_underlying hd, hf, Instr.sureAddr, fieldPlace, szOf_run hz, show (m = 0) = False from propext ⟨hz', False.elim⟩, add_none, Nat.add_assoc]
        · simp at h
      · simp at h
  · simp at h
end
end
end Go.Ev
namespace Go.Ev
noncomputable section
open Go.RowKit
section
variable {P : Program} {B : Base} {n : Nat} {μ : Mu} {F : Nat → Option Row} {w : World}
theorem slice_ptr {r k len e : Nat} {x : Value} (h : VR μ (.slice (some ⟨r, k, none⟩) len e) x) (hl : 0 < len) :
    ∃ b o s c, x = .slice (some ⟨b, o + k, none⟩) len c ∧ μ r = some (b, o, s) ∧ len ≤ c ∧ o + k + c * e ≤ s := by
  cases h with
  | slice _ _ _ _ b o s c hm hn hc => exact ⟨b, o, s, c, rfl, hm, hn, hc⟩
  | slice0 => omega
theorem gslice_ptr {r k len e : Nat} {x : Value} (h : VR μ (.slice (some ⟨r, k, some 0⟩) len e) x) (hl : 0 < len) :
    ∃ i b o s c, x = .slice (some ⟨b, o + k, none⟩) len c ∧ μ (gAt r i) = some (b, o, s) ∧ len ≤ c ∧ o + k + c * e ≤ s := by
  cases h with
  | gsl _ _ _ _ i b o s c hm hn hc => exact ⟨i, b, o, s, c, rfl, hm, hn, hc⟩
  | gsl0 => omega
def aIndexAddr (P : Program) (t : TypeId) (x i : Value) : Option Value :=
  match P.underlying t, x, i with
  | some (.slice elem), .slice (some ⟨r, k, none⟩) len _, .int _ (.ofNat z) =>
    bif Nat.blt z len then (match szOf P elem with | some m => some (.pointer (some ⟨r, k + z * m, none⟩)) | none => none) else none
  | some (.array len elem), .pointer (some ⟨r, k, none⟩), .int _ (.ofNat z) =>
    bif Nat.blt z len then (match szOf P elem with | some m => some (.pointer (some ⟨r, k + z * m, none⟩)) | none => none) else none
  | some (.slice elem), .slice (some ⟨r, k, some 0⟩) len _, .int _ (.ofNat z) =>
    bif Nat.blt z len then (match szOf P elem with | some m => some (.pointer (some ⟨r, k + z * m, some 0⟩)) | none => none) else none
  | some (.array len elem), .pointer (some ⟨r, k, some 0⟩), .int _ (.ofNat z) =>
    bif Nat.blt z len then (match szOf P elem with | some m => some (.pointer (some ⟨r, k + z * m, some 0⟩)) | none => none) else none
  | _, _, _ => none
theorem aIndexAddr_sound {t : TypeId} {x i x' v : Value} (hx : VR μ x x') (h : aIndexAddr P t x i = some v) : ∃ v', (Instr.indexAt t x' i).run P w = .ok v' w ∧ VR μ v v' := by
  unfold aIndexAddr at h
  split at h
  · rename_i elem r k len e kk z hd
    cases hb : Nat.blt z len with
    | false => simp [hb] at h
    | true =>
      have hlt : z < len := Nat.le_of_ble_eq_true hb
      simp only [hb, cond_true] at h
      cases hz : szOf P elem with
      | none => simp [hz] at h
      | some m =>
        simp [hz] at h; subst h
        obtain ⟨b, o, s, c, rfl, hm, hn, hc⟩ := slice_ptr hx (by omega)
        refine ⟨_, ?_, .ptr r (k + z * m) b o s hm⟩
        have h0 : (0 : Int) ≤ Int.ofNat z ∧ (Int.ofNat z) < (len : Int) := ⟨Int.natCast_nonneg z, by exact Int.ofNat_lt.2 hlt⟩
        simp only [Instr.indexAt, asIntOf, Sem.run_bind, Sem.run_pure, Result.andThen_ok, run_underlying hd]
        rw [if_pos h0]
        simp [szOf_run hz, add_none, Nat.add_assoc]
  · rename_i len elem r k kk z hd
    cases hb : Nat.blt z len with
    | false => simp [hb] at h
    | true =>
      have hlt : z < len := Nat.le_of_ble_eq_true hb
      simp only [hb, cond_true] at h
      cases hz : szOf P elem with
      | none => simp [hz] at h
      | some m =>
        simp [hz] at h; subst h
        cases hx with
        | ptr _ _ b o s hm =>
          refine ⟨_, ?_, .ptr r (k + z * m) b o s hm⟩
          have h0 : (0 : Int) ≤ Int.ofNat z ∧ (Int.ofNat z) < (len : Int) := ⟨Int.natCast_nonneg z, by exact Int.ofNat_lt.2 hlt⟩
          simp only [Instr.indexAt, asIntOf, Sem.run_bind, Sem.run_pure, Result.andThen_ok, run_underlying hd, Instr.sureAddr]
          rw [if_pos h0]
          simp [szOf_run hz, add_none, Nat.add_assoc]
  · rename_i elem r k len e kk z hd
    cases hb : Nat.blt z len with
    | false => simp [hb] at h
    | true =>
      have hlt : z < len := Nat.le_of_ble_eq_true hb
      simp only [hb, cond_true] at h
      cases hz : szOf P elem with
      | none => simp [hz] at h
      | some m =>
        simp [hz] at h; subst h
        obtain ⟨i, b, o, s, c, rfl, hm, hn, hc⟩ := gslice_ptr hx (by omega)
        refine ⟨_, ?_, .gptr r (k + z * m) i b o s hm⟩
        have h0 : (0 : Int) ≤ Int.ofNat z ∧ (Int.ofNat z) < (len : Int) := ⟨Int.natCast_nonneg z, by exact Int.ofNat_lt.2 hlt⟩
        simp only [Instr.indexAt, asIntOf, Sem.run_bind, Sem.run_pure, Result.andThen_ok, run_underlying hd]
        rw [if_pos h0]
        simp [szOf_run hz, add_none, Nat.add_assoc]
  · rename_i len elem r k kk z hd
    cases hb : Nat.blt z len with
    | false => simp [hb] at h
    | true =>
      have hlt : z < len := Nat.le_of_ble_eq_true hb
      simp only [hb, cond_true] at h
      cases hz : szOf P elem with
      | none => simp [hz] at h
      | some m =>
        simp [hz] at h; subst h
        cases hx with
        | gptr _ _ i b o s hm =>
          refine ⟨_, ?_, .gptr r (k + z * m) i b o s hm⟩
          have h0 : (0 : Int) ≤ Int.ofNat z ∧ (Int.ofNat z) < (len : Int) := ⟨Int.natCast_nonneg z, by exact Int.ofNat_lt.2 hlt⟩
          simp only [Instr.indexAt, asIntOf, Sem.run_bind, Sem.run_pure, Result.andThen_ok, run_underlying hd, Instr.sureAddr]
          rw [if_pos h0]
          simp [szOf_run hz, add_none, Nat.add_assoc]
  · simp at h
def bnd (d : Nat) : Option Value → Option Nat
  | none => some d
  | some (.int _ (.ofNat z)) => some z
  | _ => none
def sub (s : ByteArray) (l h : Nat) : ByteArray := ⟨((s.data.toList.drop l).take (h - l)).toArray⟩
theorem sub_eq (s : ByteArray) (l h : Nat) : s.extract l h = sub s l h := by
  unfold sub
  apply ByteArray.ext
  apply Array.ext'
  simp only [ByteArray.data_extract, Array.toList_extract, List.extract_eq_take_drop]
def aSlice (P : Program) (t : TypeId) (x : Value) (lo hi : Option Value) : Option Value :=
  match P.underlying t, x with
  | some .string, .string s =>
    match bnd 0 lo, bnd s.size hi with
    | some l, some h => bif Nat.ble l h && Nat.ble h s.size then some (.string (sub s l h)) else none
    | _, _ => none
  | some (.slice elem), .slice (some ⟨r, k, none⟩) len e =>
    match bnd 0 lo, bnd len hi, szOf P elem with
    | some l, some h, some m => bif Nat.ble l h && Nat.ble h len && Nat.beq m e then some (.slice (some ⟨r, k + l * m, none⟩) (h - l) m) else none
    | _, _, _ => none
  | some (.slice elem), .slice none 0 0 =>
    match bnd 0 lo, bnd 0 hi, szOf P elem with
    | some 0, some 0, some _ => some (.slice none 0 0)
    | _, _, _ => none
  | some (.slice elem), .slice (some ⟨r, k, some 0⟩) len e =>
    match bnd 0 lo, bnd len hi, szOf P elem with
    | some l, some h, some m => bif Nat.ble l h && Nat.ble h len && Nat.beq m e then some (.slice (some ⟨r, k + l * m, some 0⟩) (h - l) m) else none
    | _, _, _ => none
  | _, _ => none
theorem bound_run {x : Value} {y : Nat} {code : BoundsCode} {d z : Nat} (h : bnd d (some x) = some z) (hy : z ≤ y) : (Instr.sliceBound x y code).run P w = .ok z w := by
  unfold bnd at h
  split at h
  · rename_i e; simp at e
  · rename_i kk z' e
    simp at e h
    subst e; subst h
    have h0 : (0 : Int) ≤ (z' : Int) ∧ (z' : Int) ≤ (y : Int) := ⟨Int.natCast_nonneg z', by exact_mod_cast hy⟩
    simp only [Instr.sliceBound, asIntOf, Sem.run_bind, Sem.run_pure, Result.andThen_ok]
    rw [if_pos h0]; simp
  · simp at h
theorem bounds_run {b : Bool} {len cap l h : Nat} {lo hi : Option Value} (h1 : bnd 0 lo = some l) (h2 : bnd len hi = some h) (hl : l ≤ h) (hh : h ≤ cap) :
    (Instr.sliceBounds b len cap lo hi none).run P w = .ok (l, h, cap) w := by
  unfold Instr.sliceBounds
  cases lo with
  | none =>
    simp [bnd] at h1; subst h1
    cases hi with
    | none => simp [bnd] at h2; subst h2; simp
    | some x => simp [bound_run h2 hh]
  | some y =>
    cases hi with
    | none => simp [bnd] at h2; subst h2; simp [bound_run h1 hl]
    | some x => simp [bound_run h1 hl, bound_run h2 hh]
theorem aSlice_sound {t : TypeId} {x x' v : Value} {lo hi : Option Value} (hx : VR μ x x') (h : aSlice P t x lo hi = some v) : ∃ v', (Instr.sliceAt t x' lo hi none).run P w = .ok v' w ∧ VR μ v v' := by
  unfold aSlice at h
  split at h
  · rename_i s hd
    cases hx
    split at h
    · rename_i l hh h1 h2
      cases hb : (Nat.ble l hh && Nat.ble hh s.size) with
      | false => simp [hb] at h
      | true =>
        simp only [hb, cond_true, Option.some.injEq] at h; subst h
        simp only [Bool.and_eq_true] at hb
        have a1 := Nat.le_of_ble_eq_true hb.1
        have a2 := Nat.le_of_ble_eq_true hb.2
        refine ⟨_, ?_, .str _⟩
        have hbr := bounds_run (P := P) (w := w) (b := false) h1 h2 a1 a2
        simp [Instr.sliceAt, run_underlying hd, Instr.slice, hbr, sub_eq]
    · simp at h
  · rename_i elem r k len e hd
    split at h
    · rename_i l hh m h1 h2 hz
      cases hb : (Nat.ble l hh && Nat.ble hh len && Nat.beq m e) with
      | false => simp [hb] at h
      | true =>
        simp only [hb, cond_true, Option.some.injEq] at h; subst h
        simp only [Bool.and_eq_true] at hb
        have a1 := Nat.le_of_ble_eq_true hb.1.1
        have a2 := Nat.le_of_ble_eq_true hb.1.2
        have a3 := Nat.eq_of_beq_eq_true hb.2
        subst a3
        cases hx with
        | slice _ _ _ _ b o s c hm hn hc =>
          have hbr := bounds_run (P := P) (w := w) (b := true) (cap := c) h1 h2 a1 (by omega)
          by_cases hcl : c = l
          · have : hh = l := by omega
            subst this
            refine ⟨.slice (some ⟨b, o + k, none⟩) (hh - hh) (c - hh), ?_, ?_⟩
            · simp only [Instr.sliceAt, Instr.slice, Sem.run_bind, run_underlying hd, Result.andThen_ok, hbr, szOf_run hz]
              rw [if_pos hcl]; simp
            · have e1 : hh - hh = 0 := by omega
              have e2 : c - hh = 0 := by omega
              rw [e1, e2]
              exact .slice0 _ _ _ _
          · refine ⟨.slice (some ⟨b, o + (k + l * m), none⟩) (hh - l) (c - l), ?_, .slice r (k + l * m) (hh - l) m b o s (c - l) hm (by omega) ?_⟩
            · simp [Instr.sliceAt, run_underlying hd, Instr.slice, hbr, szOf_run hz, hcl, add_none, Nat.add_assoc]
            · have : l * m + (c - l) * m = c * m := by rw [← Nat.add_mul]; congr 1; omega
              omega
        | slice0 _ _ _ a =>
          have hl : l = 0 := by omega
          have hh0 : hh = 0 := by omega
          subst hl; subst hh0
          have hbr := bounds_run (P := P) (w := w) (b := true) (cap := 0) h1 h2 a1 (by omega)
          refine ⟨.slice a 0 0, ?_, ?_⟩
          · simp [Instr.sliceAt, run_underlying hd, Instr.slice, hbr, szOf_run hz]
          · exact .slice0 _ _ _ _
    · simp at h
  · rename_i elem hd
    split at h
    · rename_i h1 h2 hz
      simp at h; subst h
      cases hx
      have hbr := bounds_run (P := P) (w := w) (b := true) (cap := 0) h1 h2 (Nat.le_refl _) (Nat.le_refl _)
      refine ⟨.slice none 0 0, ?_, .snil⟩
      simp [Instr.sliceAt, run_underlying hd, Instr.slice, hbr, szOf_run hz]
    · simp at h
  · rename_i elem r k len e hd
    split at h
    · rename_i l hh m h1 h2 hz
      cases hb : (Nat.ble l hh && Nat.ble hh len && Nat.beq m e) with
      | false => simp [hb] at h
      | true =>
        simp only [hb, cond_true, Option.some.injEq] at h; subst h
        simp only [Bool.and_eq_true] at hb
        have a1 := Nat.le_of_ble_eq_true hb.1.1
        have a2 := Nat.le_of_ble_eq_true hb.1.2
        have a3 := Nat.eq_of_beq_eq_true hb.2
        subst a3
        cases hx with
        | gsl _ _ _ _ i b o s c hm hn hc =>
          have hbr := bounds_run (P := P) (w := w) (b := true) (cap := c) h1 h2 a1 (by omega)
          by_cases hcl : c = l
          · have : hh = l := by omega
            subst this
            refine ⟨.slice (some ⟨b, o + k, none⟩) (hh - hh) (c - hh), ?_, ?_⟩
            · simp only [Instr.sliceAt, Instr.slice, Sem.run_bind, run_underlying hd, Result.andThen_ok, hbr, szOf_run hz]
              rw [if_pos hcl]; simp
            · have e1 : hh - hh = 0 := by omega
              have e2 : c - hh = 0 := by omega
              rw [e1, e2]
              exact .gsl0 _ _ _ _
          · refine ⟨.slice (some ⟨b, o + (k + l * m), none⟩) (hh - l) (c - l), ?_, .gsl r (k + l * m) (hh - l) m i b o s (c - l) hm (by omega) ?_⟩
            · simp [Instr.sliceAt, run_underlying hd, Instr.slice, hbr, szOf_run hz, hcl, add_none, Nat.add_assoc]
            · have : l * m + (c - l) * m = c * m := by rw [← Nat.add_mul]; congr 1; omega
              omega
        | gsl0 _ _ _ a =>
          have hl : l = 0 := by omega
          have hh0 : hh = 0 := by omega
          subst hl; subst hh0
          have hbr := bounds_run (P := P) (w := w) (b := true) (cap := 0) h1 h2 a1 (by omega)
          refine ⟨.slice a 0 0, ?_, ?_⟩
          · simp [Instr.sliceAt, run_underlying hd, Instr.slice, hbr, szOf_run hz]
          · exact .gsl0 _ _ _ _
    · simp at h
  · simp at h
def aPart (P : Program) (t : TypeId) (cs : List Value) (off : Nat) : Option Value :=
  match aggB P t with
  | some true =>
    match szOf P t with
    | some m => some (.agg ((cs.drop off).take m).toArray)
    | none => none
  | some false => cs[off]?
  | none => none
theorem extract_vrs {cs cs' : List Value} (h : VRs μ cs cs') (off m : Nat) : VR μ (.agg ((cs.drop off).take m).toArray) (.agg (cs'.toArray.extract off (off + m))) := by
  have : cs'.toArray.extract off (off + m) = ((cs'.drop off).take m).toArray := by
    simp [List.extract_eq_take_drop]
  rw [this]
  exact ((h.drop off).take m).agg
theorem aPart_sound {t : TypeId} {cs : List Value} {cs' : Array Value} {off : Nat} {v : Value} (hc : VRs μ cs cs'.toList) (h : aPart P t cs off = some v) :
    ∃ v', (part t cs' off).run P w = .ok v' w ∧ VR μ v v' := by
  unfold aPart at h
  split at h
  · rename_i hg
    split at h
    · rename_i m hz
      simp at h; subst h
      refine ⟨.agg (cs'.extract off (off + m)), ?_, ?_⟩
      · simp [part, aggB_run hg, szOf_run hz]
      · have := extract_vrs hc off m
        simpa using this
    · simp at h
  · rename_i hg
    obtain ⟨v', hv', hvr⟩ := hc.get h
    have : cs'[off]? = some v' := by simpa using hv'
    exact ⟨v', by simp [part, aggB_run hg, this], hvr⟩
  · simp at h
def aFieldV (P : Program) (t : TypeId) (f : Nat) : Value → Option Value
  | .agg cs =>
    match P.underlying t with
    | some (.struct fields) => (match fields[f]? with | some fd => aPart P fd.type cs.toList fd.offset | none => none)
    | _ => none
  | _ => none
theorem aFieldV_sound {t : TypeId} {f : Nat} {x x' v : Value} (hx : VR μ x x') (h : aFieldV P t f x = some v) : ∃ v', (Instr.field t x' f).run P w = .ok v' w ∧ VR μ v v' := by
  unfold aFieldV at h
  split at h
  · rename_i cs
    split at h
    · rename_i fields hd
      split at h
      · rename_i fd hf
        cases hx with
        | agg _ cs' hs hh =>
          obtain ⟨v', hr, hv⟩ := aPart_sound (P := P) (w := w) (VRs.of_array hs hh) h
          exact ⟨v', by simp [Instr.field, run_underlying hd, hf, asAgg, hr], hv⟩
      · simp at h
    · simp at h
  · simp at h
def aIndexV (P : Program) (t : TypeId) (x i : Value) : Option Value :=
  match P.underlying t, x, i with
  | some .string, .string s, .int _ (.ofNat z) => (match s.data.toList[z]? with | some b => some (.int .u8 b.toNat) | none => none)
  | some (.array len elem), .agg cs, .int _ (.ofNat z) =>
    bif Nat.blt z len then (match szOf P elem with | some m => aPart P elem cs.toList (z * m) | none => none) else none
  | _, _, _ => none
theorem aIndexV_sound {t : TypeId} {x i x' v : Value} (hx : VR μ x x') (h : aIndexV P t x i = some v) : ∃ v', (Instr.index t x' i).run P w = .ok v' w ∧ VR μ v v' := by
  unfold aIndexV at h
  split at h
  · rename_i s kk z hd
    cases hx
    split at h
    · rename_i b hb
      simp at h; subst h
      refine ⟨_, ?_, .int _ _⟩
      have hlt := (List.getElem?_eq_some_iff.1 hb).1
      have hb' : s[z]? = some b := by
        have hsz : z < s.size := hlt
        rw [getElem?_pos s z hsz]
        obtain ⟨_, e⟩ := List.getElem?_eq_some_iff.1 hb
        rw [← e]; rfl
      simp [Instr.index, asIntOf, run_underlying hd, hb']
    · simp at h
  · rename_i len elem cs kk z hd
    cases hb : Nat.blt z len with
    | false => simp [hb] at h
    | true =>
      have hlt : z < len := Nat.le_of_ble_eq_true hb
      simp only [hb, cond_true] at h
      cases hz : szOf P elem with
      | none => simp [hz] at h
      | some m =>
        simp only [hz] at h
        cases hx with
        | agg _ cs' hs hh =>
          obtain ⟨v', hr, hv⟩ := aPart_sound (P := P) (w := w) (VRs.of_array hs hh) h
          refine ⟨v', ?_, hv⟩
          have h0 : (0 : Int) ≤ Int.ofNat z ∧ (Int.ofNat z) < (len : Int) := ⟨Int.natCast_nonneg z, by exact Int.ofNat_lt.2 hlt⟩
          simp only [Instr.index, asIntOf, Sem.run_bind, Sem.run_pure, Result.andThen_ok, run_underlying hd]
          rw [if_pos h0]
          simp [szOf_run hz, hr]
  · simp at h
def aExtract (ix : Nat) : Value → Option Value
  | .tuple vs => vs.toList[ix]?
  | _ => none
theorem aExtract_sound {ix : Nat} {x x' v : Value} (hx : VR μ x x') (h : aExtract ix x = some v) : ∃ v', (Instr.extract x' ix).run P w = .ok v' w ∧ VR μ v v' := by
  unfold aExtract at h
  split at h
  · cases hx with
    | tuple _ vs' hs hh =>
      obtain ⟨v', hv', hvr⟩ := (VRs.of_array hs hh).get h
      have : vs'[ix]? = some v' := by simpa using hv'
      exact ⟨v', by simp [Instr.extract, this], hvr⟩
  · simp at h
def bytesOf : List Value → Option (List UInt8)
  | [] => some []
  | .int .u8 z :: r => (match bytesOf r with | some l => some (UInt8.ofNat z.toNat :: l) | none => none)
  | _ :: _ => none
theorem bytesOf_spec : ∀ (l : List Value) (bs : List UInt8), bytesOf l = some bs → ∃ ns : List Int, l = ns.map (Value.int .u8) ∧ bs = ns.map (fun z => UInt8.ofNat z.toNat) := by
  intro l
  induction l with
  | nil => intro bs h; simp [bytesOf] at h; exact ⟨[], rfl, by simp [h]⟩
  | cons x r ih =>
    intro bs h
    unfold bytesOf at h
    split at h
    · rename_i e; simp at e
    · rename_i z r' e
      simp at e
      obtain ⟨rfl, rfl⟩ := e
      split at h
      · rename_i l hl
        simp at h; subst h
        obtain ⟨ns, h1, h2⟩ := ih l hl
        exact ⟨z :: ns, by simp [h1], by simp [h2]⟩
      · simp at h
    · simp at h
theorem flat_bytes {ns : List Int} {m : List Value} (h : VRs μ (ns.map (Value.int .u8)) m) : m = ns.map (Value.int .u8) := by
  induction ns generalizing m with
  | nil => have := h.1; simp at this; simpa using this.symm
  | cons z ns ih =>
    obtain ⟨b, m', rfl, hv, hr⟩ := VRs.uncons h
    cases hv
    rw [ih hr]; rfl
theorem foldl_push (ns : List Int) : ∀ (s : ByteArray), ns.foldl (fun r n => r.push (UInt8.ofNat n.toNat)) s = ⟨(s.data.toList ++ ns.map (fun z => UInt8.ofNat z.toNat)).toArray⟩ := by
  induction ns with
  | nil => intro s; simp
  | cons z ns ih =>
    intro s
    rw [List.foldl_cons, ih]
    simp [ByteArray.push]
def aText (P : Program) (rows : Tr Row) (src dst : TypeId) : Value → Option Value
  | .slice none 0 0 =>
    match P.underlying src, P.underlying dst with
    | some (.slice e), some .string => (match P.underlying e with | some (.int .u8) => some (.string ⟨#[]⟩) | _ => none)
    | _, _ => none
  | .slice (some ⟨r, k, none⟩) len _ =>
    match P.underlying src, P.underlying dst with
    | some (.slice e), some .string =>
      match P.underlying e, rows.find r with
      | some (.int .u8), some ⟨cells, _, .cells _⟩ =>
        match cut cells k len with
        | some l => (match bytesOf l with | some bs => some (.string ⟨bs.toArray⟩) | none => none)
        | none => none
      | _, _ => none
    | _, _ => none
  | .slice (some ⟨r, k, some 0⟩) len _ =>
    match P.underlying src, P.underlying dst with
    | some (.slice e), some .string =>
      match P.underlying e with
      | some (.int .u8) =>
        match cut (gCells r) k len with
        | some l => (match bytesOf l with | some bs => some (.string ⟨bs.toArray⟩) | none => none)
        | none => none
      | _ => none
    | _, _ => none
  | _ => none
theorem aText_sound {rows : Tr Row} (hw : WR B μ rows.find n w) {src dst : TypeId} {x x' v : Value} (hx : VR μ x x') (h : aText P rows src dst x = some v) :
    ∃ v', (convert src dst x').run P w = .ok v' w ∧ VR μ v v' := by
  unfold aText at h
  split at h
  · split at h
    · rename_i e hd1 hd2
      split at h
      · rename_i hd3
        simp at h; subst h
        cases hx
        refine ⟨_, ?_, .str _⟩
        rw [run_convert_bytes_string w src dst e _ _ _ hd1 hd3 hd2]
        rfl
      · simp at h
    · simp at h
  · rename_i r k len c
    split at h
    · rename_i e hd1 hd2
      split at h
      · rename_i cells ro sy hd3 hrow
        split at h
        · rename_i l hc
          split at h
          · rename_i bs hbs
            simp at h; subst h
            obtain ⟨ns, rfl, rfl⟩ := bytesOf_spec l bs hbs
            refine ⟨_, ?_, .str _⟩
            obtain ⟨hl1, hl2, hl3⟩ := cut_spec hc
            have goal : ∀ (a : Addr) (cap : Nat), (loadCells a len).run P w = .ok (ns.map (Value.int .u8)).toArray w →
                (convert src dst (.slice (some a) len cap)).run P w = .ok (.string ⟨(ns.map (fun z => UInt8.ofNat z.toNat)).toArray⟩) w := by
              intro a cap hl
              rw [run_convert_bytes_string w src dst e _ _ _ hd1 hd3 hd2, run_bytesToString w a len cap ns hl, foldl_push]
              rfl
            by_cases h0 : len = 0
            · subst h0
              have hns : ns = [] := by
                cases ns with
                | nil => rfl
                | cons a b => simp at hl2
              subst hns
              cases hx with
              | slice => exact goal _ _ (by simp [loadCells, loadCellsFrom])
              | slice0 _ _ _ a =>
                cases a with
                | some a => exact goal _ _ (by simp [loadCells, loadCellsFrom])
                | none => rw [run_convert_bytes_string w src dst e _ _ _ hd1 hd3 hd2]; rfl
            · obtain ⟨b, o, s, c', rfl, hm, hn, hcap⟩ := slice_ptr hx (by omega)
              obtain ⟨c0, e0, fr, g1, g2, g3, g4⟩ := row_cells (cells := cells) hw hrow (by omega) (k := k) (m := len) (by omega) hm
              refine goal _ _ ?_
              rw [run_loadCells_blk g1 g3]
              rw [← hl1] at g4
              rw [flat_bytes g4]
          · simp at h
        · simp at h
      · simp at h
    · simp at h
  · rename_i r k len c
    split at h
    · rename_i e hd1 hd2
      split at h
      · rename_i hd3
        split at h
        · rename_i l hc
          split at h
          · rename_i bs hbs
            simp at h; subst h
            obtain ⟨ns, rfl, rfl⟩ := bytesOf_spec l bs hbs
            refine ⟨_, ?_, .str _⟩
            obtain ⟨hl1, hl2, hl3⟩ := cut_spec hc
            have goal : ∀ (a : Addr) (cap : Nat), (loadCells a len).run P w = .ok (ns.map (Value.int .u8)).toArray w →
                (convert src dst (.slice (some a) len cap)).run P w = .ok (.string ⟨(ns.map (fun z => UInt8.ofNat z.toNat)).toArray⟩) w := by
              intro a cap hl
              rw [run_convert_bytes_string w src dst e _ _ _ hd1 hd3 hd2, run_bytesToString w a len cap ns hl, foldl_push]
              rfl
            by_cases h0 : len = 0
            · subst h0
              have hns : ns = [] := by
                cases ns with
                | nil => rfl
                | cons a b => simp at hl2
              subst hns
              cases hx with
              | gsl => exact goal _ _ (by simp [loadCells, loadCellsFrom])
              | gsl0 _ _ _ a =>
                cases a with
                | some a => exact goal _ _ (by simp [loadCells, loadCellsFrom])
                | none => rw [run_convert_bytes_string w src dst e _ _ _ hd1 hd3 hd2]; rfl
            · obtain ⟨i, b, o, s, c', rfl, hm, hn, hcap⟩ := gslice_ptr hx (by omega)
              obtain ⟨c0, e0, fr, g1, g2, g3, g4⟩ := g_cells hw (k := k) (m := len) (by omega) hm
              refine goal _ _ ?_
              rw [run_loadCells_blk g1 g3]
              rw [← hl1] at g4
              rw [flat_bytes g4]
          · simp at h
        · simp at h
      · simp at h
    · simp at h
  · simp at h
end
end
end Go.Ev
