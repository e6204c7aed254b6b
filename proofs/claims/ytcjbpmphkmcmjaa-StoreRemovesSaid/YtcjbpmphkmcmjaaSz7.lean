/- An evaluator of the model's code, sound for every world, second edition: part 7. -/
import Derived.Test.YtcjbpmphkmcmjaaSz6
namespace Go.Sy
noncomputable section
open Go.Ev Go.RowKit
inductive Rn (R : Nat → Nat → Nat → Prop) : Value → Value → Prop where
  | bool (b : Bool) : Rn R (.bool b) (.bool b)
  | int (k : IntKind) (n : Int) : Rn R (.int k n) (.int k n)
  | float (k : FloatKind) (b : Nat) : Rn R (.float k b) (.float k b)
  | complex (k : FloatKind) (a b : Nat) : Rn R (.complex k a b) (.complex k a b)
  | str (s : ByteArray) : Rn R (.string s) (.string s)
  | mnil : Rn R (.map none) (.map none)
  | mapp (r' r : Nat) (h : R r' r 0) : Rn R (.map (some r')) (.map (some r))
  | pnil : Rn R (.pointer none) (.pointer none)
  | ptr (r' r d k : Nat) (h : R r' r d) : Rn R (.pointer (some ⟨r', k, none⟩)) (.pointer (some ⟨r, d + k, none⟩))
  | snil : Rn R (.slice none 0 0) (.slice none 0 0)
  | slice (r' r d k n e : Nat) (h : R r' r d) : Rn R (.slice (some ⟨r', k, none⟩) n e) (.slice (some ⟨r, d + k, none⟩) n e)
  | slice0 (r' k' e' : Nat) : Rn R (.slice (some ⟨r', k', none⟩) 0 e') (.slice none 0 0)
  | gptr (z k : Nat) : Rn R (.pointer (some ⟨z, k, some 0⟩)) (.pointer (some ⟨z, k, some 0⟩))
  | gsl (z k n e : Nat) : Rn R (.slice (some ⟨z, k, some 0⟩) n e) (.slice (some ⟨z, k, some 0⟩) n e)
  | gsl0 (z k e : Nat) : Rn R (.slice (some ⟨z, k, some 0⟩) 0 e) (.slice none 0 0)
  | func (fn : Fn) (x y x' y' : Array Value) (hx : x.size = x'.size) (hy : y.size = y'.size)
      (h1 : ∀ i (h : i < x.size) (h' : i < x'.size), Rn R x[i] x'[i]) (h2 : ∀ i (h : i < y.size) (h' : i < y'.size), Rn R y[i] y'[i]) :
      Rn R (.func fn x y) (.func fn x' y')
  | nilFunc : Rn R .nilFunc .nilFunc
  | iface (t : TypeId) (v v' : Value) (h : Rn R v v') : Rn R (.iface t v) (.iface t v')
  | nilIface : Rn R .nilIface .nilIface
  | agg (x x' : Array Value) (hx : x.size = x'.size) (h : ∀ i (h : i < x.size) (h' : i < x'.size), Rn R x[i] x'[i]) : Rn R (.agg x) (.agg x')
  | tuple (x x' : Array Value) (hx : x.size = x'.size) (h : ∀ i (h : i < x.size) (h' : i < x'.size), Rn R x[i] x'[i]) : Rn R (.tuple x) (.tuple x')
def GLe (μ μ' : Mu) : Prop := ∀ z i p, μ (gAt z i) = some p → μ' (gAt z i) = some p
theorem GLe.refl (μ : Mu) : GLe μ μ := fun _ _ _ h => h
theorem Le.g {μ μ' : Mu} (h : Le μ μ') : GLe μ μ' := fun _ _ _ hp => h _ _ hp
theorem Rn.here {R : Nat → Nat → Nat → Prop} {μ μ' : Mu} (hR : ∀ r' r d, R r' r d → ∀ b o s, μ r = some (b, o, s) → μ' r' = some (b, o + d, s)) (hG : GLe μ μ') {v' v : Value} (h : Rn R v' v) : ∀ w, VR μ v w → VR μ' v' w := by
  induction h with
  | bool b => intro w hw; cases hw; exact .bool _
  | int k n => intro w hw; cases hw; exact .int _ _
  | float k b => intro w hw; cases hw with
    | float => exact .float _ _
    | nan _ _ _ h h' => exact .nan _ _ _ h h'
  | complex k a b => intro w hw; cases hw; exact .complex _ _ _
  | str s => intro w hw; cases hw; exact .str _
  | mnil => intro w hw; cases hw; exact .mnil
  | mapp r' r h => intro w hw; cases hw with
    | mapp _ b hb => exact .mapp _ b (hR _ _ _ h _ _ _ hb)
  | pnil => intro w hw; cases hw; exact .pnil
  | ptr r' r d k h => intro w hw; cases hw with
    | ptr _ _ b o s hb => rw [show o + (d + k) = (o + d) + k by omega]; exact .ptr r' k b (o + d) s (hR _ _ _ h _ _ _ hb)
  | snil => intro w hw; cases hw; exact .snil
  | slice r' r d k n e h => intro w hw; cases hw with
    | slice _ _ _ _ b o s c hb hn hc => rw [show o + (d + k) = (o + d) + k by omega]; exact .slice r' k n e b (o + d) s c (hR _ _ _ h _ _ _ hb) hn (by omega)
    | slice0 _ _ _ a => exact .slice0 _ _ _ _
  | slice0 r' k' e' => intro w hw; cases hw; exact .slice0 _ _ _ _
  | gptr z k => intro w hw; cases hw with
    | gptr _ _ i b o s hb => exact .gptr z k i b o s (hG _ _ _ hb)
  | gsl z k n e => intro w hw; cases hw with
    | gsl _ _ _ _ i b o s c hb hn hc => exact .gsl z k n e i b o s c (hG _ _ _ hb) hn hc
    | gsl0 _ _ _ a => exact .gsl0 _ _ _ _
  | gsl0 z k e => intro w hw; cases hw; exact .gsl0 _ _ _ _
  | func fn x y x' y' hx hy _ _ ih1 ih2 =>
    intro w hw; cases hw with
    | func _ _ _ x2 y2 hx2 hy2 k1 k2 =>
      exact .func _ _ _ _ _ (hx.trans hx2) (hy.trans hy2) (fun i a b => ih1 i a (by omega) _ (k1 i (by omega) b)) (fun i a b => ih2 i a (by omega) _ (k2 i (by omega) b))
  | nilFunc => intro w hw; cases hw; exact .nilFunc
  | iface t v v' _ ih => intro w hw; cases hw with
    | iface _ _ w' k => exact .iface _ _ _ (ih _ k)
  | nilIface => intro w hw; cases hw; exact .nilIface
  | agg x x' hx _ ih => intro w hw; cases hw with
    | agg _ x2 hx2 k => exact .agg _ _ (hx.trans hx2) (fun i a b => ih i a (by omega) _ (k i (by omega) b))
  | tuple x x' hx _ ih => intro w hw; cases hw with
    | tuple _ x2 hx2 k => exact .tuple _ _ (hx.trans hx2) (fun i a b => ih i a (by omega) _ (k i (by omega) b))
def Rns (R : Nat → Nat → Nat → Prop) (l' l : List Value) : Prop := l'.length = l.length ∧ ∀ (i : Nat) v' v, l'[i]? = some v' → l[i]? = some v → Rn R v' v
theorem Rns.nil {R : Nat → Nat → Nat → Prop} : Rns R [] [] := ⟨rfl, fun i v v' h => by simp at h⟩
theorem Rns.cons {R : Nat → Nat → Nat → Prop} {a b : Value} {l m : List Value} (h : Rn R a b) (hl : Rns R l m) : Rns R (a :: l) (b :: m) :=
  ⟨by simp [hl.1], fun i v v' h1 h2 => by
    cases i with
    | zero => simp at h1 h2; subst h1; subst h2; exact h
    | succ i => simp at h1 h2; exact hl.2 i v v' h1 h2⟩
theorem Rns.here {R : Nat → Nat → Nat → Prop} {μ μ' : Mu} (hR : ∀ r' r d, R r' r d → ∀ b o s, μ r = some (b, o, s) → μ' r' = some (b, o + d, s)) (hG : GLe μ μ') {l' l ws : List Value} (h : Rns R l' l) (hv : VRs μ l ws) : VRs μ' l' ws := by
  refine ⟨h.1.trans hv.1, fun i v' w h1 h2 => ?_⟩
  have hi := (List.getElem?_eq_some_iff.1 h1).1
  have hl : i < l.length := by rw [← h.1]; exact hi
  exact (h.2 i v' l[i] h1 (List.getElem?_eq_getElem hl)).here hR hG w (hv.2 i _ w (List.getElem?_eq_getElem hl) h2)
theorem Rn.mono {R R2 : Nat → Nat → Nat → Prop} (hr : ∀ a b d, R a b d → R2 a b d) {v' v : Value} (h : Rn R v' v) : Rn R2 v' v := by
  induction h with
  | func fn x y x' y' hx hy _ _ ih1 ih2 => exact .func _ _ _ _ _ hx hy ih1 ih2
  | iface t v v' _ ih => exact .iface _ _ _ ih
  | agg x x' hx _ ih => exact .agg _ _ hx ih
  | tuple x x' hx _ ih => exact .tuple _ _ hx ih
  | mapp r' r h => exact .mapp _ _ (hr _ _ _ h)
  | ptr r' r d k h => exact .ptr _ _ _ _ (hr _ _ _ h)
  | slice r' r d k n e h => exact .slice _ _ _ _ _ _ (hr _ _ _ h)
  | slice0 => exact .slice0 _ _ _
  | gptr => exact .gptr _ _
  | gsl => exact .gsl _ _ _ _
  | gsl0 => exact .gsl0 _ _ _
  | _ => constructor
theorem Rns.mono {R R2 : Nat → Nat → Nat → Prop} (hr : ∀ a b d, R a b d → R2 a b d) {l' l : List Value} (h : Rns R l' l) : Rns R2 l' l := ⟨h.1, fun i a b h1 h2 => (h.2 i a b h1 h2).mono hr⟩
def noAddr : Nat → Value → Bool
  | 0, _ => false
  | _ + 1, .bool _ | _ + 1, .int _ _ | _ + 1, .float _ _ | _ + 1, .map none | _ + 1, .complex _ _ _ | _ + 1, .string _ | _ + 1, .pointer none | _ + 1, .nilFunc | _ + 1, .nilIface => true
  | _ + 1, .slice none 0 0 => true
  | _ + 1, .slice (some ⟨_, _, some 0⟩) _ _ => true
  | _ + 1, .pointer (some ⟨_, _, some 0⟩) => true
  | n + 1, .iface _ v => noAddr n v
  | n + 1, .agg x | n + 1, .tuple x => x.toList.all (noAddr n)
  | n + 1, .func _ x y => x.toList.all (noAddr n) && y.toList.all (noAddr n)
  | _, _ => false
theorem noAddr_rn {R : Nat → Nat → Nat → Prop} : ∀ (n : Nat) (v : Value), noAddr n v = true → Rn R v v := by
  intro n
  induction n with
  | zero => intro v h; simp [noAddr] at h
  | succ n ih =>
    intro v h
    have all : ∀ x : Array Value, x.toList.all (noAddr n) = true → ∀ i (h : i < x.size) (h' : i < x.size), Rn R x[i] x[i] := by
      intro x hx i h1 _
      rw [List.all_eq_true] at hx
      exact ih _ (hx _ (by simp))
    cases v with
    | pointer a =>
      unfold noAddr at h
      split at h <;> first | (simp at h; done) | skip
      all_goals first | (rename_i e; cases e; done) | skip
      all_goals (rename_i e; first | (cases e; first | exact .pnil | exact .gptr _ _) | exact .pnil | exact .gptr _ _)
    | slice a n c =>
      unfold noAddr at h
      split at h <;> first | (simp at h; done) | skip
      all_goals first | (rename_i e; cases e; done) | skip
      all_goals (rename_i e; first | (cases e; first | exact .snil | exact .gsl _ _ _ _) | exact .snil | exact .gsl _ _ _ _)
    | iface t v => exact .iface t v v (ih _ (by simpa [noAddr] using h))
    | agg x => exact .agg x x rfl (all x (by simpa only [noAddr] using h))
    | tuple x => exact .tuple x x rfl (all x (by simpa only [noAddr] using h))
    | func fn x y =>
      simp only [noAddr, Bool.and_eq_true] at h
      exact .func fn x y x y rfl rfl (all x h.1) (all y h.2)
    | map r => cases r with
      | none => exact .mnil
      | some r => simp [noAddr] at h
    | chan r => simp [noAddr] at h
    | _ => first | constructor | simp [noAddr] at h
def Plain (l : List Value) : Prop := ∀ v ∈ l, noAddr 12 v = true
theorem Plain.rns {R : Nat → Nat → Nat → Prop} {l : List Value} (h : Plain l) : Rns R l l :=
  ⟨rfl, fun i v v' h1 h2 => by rw [h1] at h2; simp at h2; subst h2; exact noAddr_rn _ _ (h v (List.mem_of_getElem? h1))⟩
abbrev Ass := List (Nat × Option Nat)
def Ass.get (ρ : Ass) (r : Nat) : Option (Option Nat) := match ρ with
  | [] => none
  | p :: l => bif Nat.beq p.1 r then some p.2 else Ass.get l r
def Ass.has (ρ : Ass) (r : Nat) : Bool := match ρ with
  | [] => false
  | p :: l => (match p.2 with | some q => Nat.beq q r | none => false) || Ass.has l r
def asOne (ρ : Ass) (r' : Nat) (r : Option Nat) (k : Ass → Prop) : Prop :=
  match ρ.get r', r with
  | some (some q), some r => need (Nat.beq q r) (k ρ)
  | some none, none => k ρ
  | none, some r => k ((r', some r) :: ρ)
  | none, none => k ((r', none) :: ρ)
  | _, _ => False
def mGo (f : Ass → Value → Value → (Ass → Prop) → Prop) : List Value → List Value → Ass → (Ass → Prop) → Prop
  | [], [], ρ, k => k ρ
  | c :: x, a :: y, ρ, k => f ρ c a fun ρ => mGo f x y ρ k
  | _, _, _, _ => False
def mV : Nat → Ass → Value → Value → (Ass → Prop) → Prop
  | 0, _, _, _, _ => False
  | d + 1, ρ, c, a, k =>
    match c, a with
    | .int t n, .int t' m => need (decide (t = t')) (n = m ∧ k ρ)
    | .bool b, .bool b' => b = b' ∧ k ρ
    | .string s, .string s' => s = s' ∧ k ρ
    | .float t n, .float t' m => need (decide (t = t')) (n = m ∧ k ρ)
    | .pointer none, .pointer none => k ρ
    | .pointer (some ⟨r', o', none⟩), .pointer (some ⟨r, o, none⟩) => asOne ρ r' (some r) fun ρ => o' = o ∧ k ρ
    | .slice none 0 0, .slice none 0 0 => k ρ
    | .slice (some ⟨r', o', none⟩) n' e', .slice (some ⟨r, o, none⟩) n e => need (Nat.beq e' e) (asOne ρ r' (some r) fun ρ => o' = o ∧ n' = n ∧ k ρ)
    | .slice (some ⟨r', _, none⟩) n' _, .slice none 0 0 => (match ρ.get r' with | some (some _) => n' = 0 ∧ k ρ | _ => asOne ρ r' none fun ρ => n' = 0 ∧ k ρ)
    | .pointer (some ⟨z', o', some 0⟩), .pointer (some ⟨z, o, some 0⟩) => z' = z ∧ o' = o ∧ k ρ
    | .slice (some ⟨z', o', some 0⟩) n' e', .slice (some ⟨z, o, some 0⟩) n e => z' = z ∧ o' = o ∧ n' = n ∧ e' = e ∧ k ρ
    | .slice (some ⟨_, _, some 0⟩) n' _, .slice none 0 0 => n' = 0 ∧ k ρ
    | .agg ⟨x⟩, .agg ⟨y⟩ => bif Nat.ble 100 x.length then x = y ∧ Plain x ∧ k ρ else mGo (mV d) x y ρ k
    | .tuple ⟨x⟩, .tuple ⟨y⟩ => mGo (mV d) x y ρ k
    | .nilFunc, .nilFunc => k ρ
    | .nilIface, .nilIface => k ρ
    | .map none, .map none => k ρ
    | .map (some r'), .map (some r) => asOne ρ r' (some r) k
    | .iface t' x, .iface t y => need (decide (t' = t)) (mV d ρ x y k)
    | .func f' ⟨x⟩ ⟨y⟩, .func f ⟨x2⟩ ⟨y2⟩ => need (decide (f' = f)) (mGo (mV d) x x2 ρ fun ρ => mGo (mV d) y y2 ρ k)
    | _, _ => False
def mRow (rows : Tr Row) (ρ : Ass) (r' : Nat) (row : Row) (k : Ass → Prop) : Prop :=
  match ρ.get r', row with
  | some (some r), ⟨cells', ro', .cells true⟩ =>
    (match rows.find r with
    | some ⟨cells, ro, .cells _⟩ => need (decide (ro' = ro)) (cells' = cells ∧ Plain cells' ∧ k ρ)
    | _ => False)
  | some (some r), ⟨cells', ro', .cells false⟩ =>
    (match rows.find r with
    | some ⟨cells, ro, .cells false⟩ => need (decide (ro' = ro)) (mGo (mV 12) cells' cells ρ k)
    | _ => False)
  | some none, ⟨cells', ro', .cells _⟩ => need (!ro') (cells' = [] ∧ k ρ)
  | some (some r), ⟨cells', ro', .map true⟩ =>
    (match rows.find r with
    | some ⟨cells, ro, .map _⟩ => need (decide (ro' = ro)) (cells' = cells ∧ Plain cells' ∧ k ρ)
    | _ => False)
  | some (some r), ⟨cells', ro', .map false⟩ =>
    (match rows.find r with
    | some ⟨cells, ro, .map false⟩ => need (decide (ro' = ro)) (mGo (mV 12) cells' cells ρ k)
    | _ => False)
  | some (some r), ⟨cells', ro', .iter⟩ =>
    (match rows.find r with
    | some ⟨cells, ro, .iter⟩ => need (decide (ro' = ro)) (mGo (mV 12) cells' cells ρ k)
    | _ => False)
  | _, _ => False
def mRows (rows : Tr Row) (ρ : Ass) : List (Nat × Row) → (Ass → Prop) → Prop
  | [], k => k ρ
  | p :: l, k => mRow rows ρ p.1 p.2 fun ρ => mRows rows ρ l k
def idAss : Nat → Ass
  | 0 => []
  | n + 1 => (n, some n) :: idAss n
def mSlots (tm : Tr Value) : List (Nat × Value) → Ass → (Ass → Prop) → Prop
  | [], ρ, k => k ρ
  | p :: l, ρ, k => match tm.find p.1 with
    | some v => mV 12 ρ p.2 v fun ρ => mSlots tm l ρ k
    | none => False
def Ass.Inj (_ : Ass) : Prop := True
def Ass.Ext (ρ ρ' : Ass) : Prop := ∀ a x, ρ.get a = some x → ρ'.get a = some x
theorem Ass.Ext.refl (ρ : Ass) : ρ.Ext ρ := fun _ _ h => h
theorem Ass.Ext.trans {a b c : Ass} (h : a.Ext b) (k : b.Ext c) : a.Ext c := fun x y hx => k x y (h x y hx)
def RA (ρ : Ass) (r' r d : Nat) : Prop := d = 0 ∧ ρ.get r' = some (some r)
theorem RA.ext {ρ ρ' : Ass} (h : ρ.Ext ρ') : ∀ a b d, RA ρ a b d → RA ρ' a b d := fun a _ _ hx => ⟨hx.1, h a _ hx.2⟩
theorem get_cons (p : Nat × Option Nat) (l : Ass) (a : Nat) : Ass.get (p :: l) a = if p.1 = a then some p.2 else l.get a := by
  simp only [Ass.get]
  by_cases h : p.1 = a
  · rw [if_pos h, h]; simp
  · rw [if_neg h]
    have : Nat.beq p.1 a = false := by
      cases hb : Nat.beq p.1 a with
      | false => rfl
      | true => exact absurd (Nat.eq_of_beq_eq_true hb) h
    rw [this]; rfl
theorem asOne_sound {ρ : Ass} (hi : ρ.Inj) {r' : Nat} {r : Option Nat} {k : Ass → Prop} (h : asOne ρ r' r k) : ∃ ρ', ρ.Ext ρ' ∧ ρ'.Inj ∧ ρ'.get r' = some r ∧ k ρ' := by
  unfold asOne at h
  split at h
  · rename_i q r0 hg
    obtain ⟨h1, h2⟩ := need_spec h
    have := Nat.eq_of_beq_eq_true h1
    subst this
    exact ⟨ρ, .refl _, hi, hg, h2⟩
  · rename_i hg; exact ⟨ρ, .refl _, hi, hg, h⟩
  · rename_i hg
    refine ⟨_, fun a x hx => ?_, trivial, by rw [get_cons, if_pos rfl], h⟩
    rw [get_cons]; split
    · rename_i e; simp only at e; subst e; rw [hg] at hx; simp at hx
    · exact hx
  · rename_i hg
    refine ⟨_, fun a x hx => ?_, trivial, by rw [get_cons, if_pos rfl], h⟩
    rw [get_cons]; split
    · rename_i e; simp only at e; subst e; rw [hg] at hx; simp at hx
    · exact hx
  · exact h.elim
theorem mGo_sound {f : Ass → Value → Value → (Ass → Prop) → Prop} (hf : ∀ ρ c a k, ρ.Inj → f ρ c a k → ∃ ρ', ρ.Ext ρ' ∧ ρ'.Inj ∧ Rn (RA ρ') c a ∧ k ρ') :
    ∀ (x y : List Value) (ρ : Ass) (k : Ass → Prop), ρ.Inj → mGo f x y ρ k → ∃ ρ', ρ.Ext ρ' ∧ ρ'.Inj ∧ Rns (RA ρ') x y ∧ k ρ' := by
  intro x
  induction x with
  | nil =>
    intro y ρ k hi h
    cases y with
    | nil => exact ⟨ρ, .refl _, hi, .nil, h⟩
    | cons => exact h.elim
  | cons c x ih =>
    intro y ρ k hi h
    cases y with
    | nil => exact h.elim
    | cons a y =>
      obtain ⟨ρ1, e1, i1, r1, h1⟩ := hf _ _ _ _ hi h
      obtain ⟨ρ2, e2, i2, r2, h2⟩ := ih _ _ _ i1 h1
      exact ⟨ρ2, e1.trans e2, i2, .cons (r1.mono (RA.ext e2)) r2, h2⟩
theorem Rns.agg {R : Nat → Nat → Nat → Prop} {x y : List Value} (h : Rns R x y) : Rn R (.agg ⟨x⟩) (.agg ⟨y⟩) :=
  .agg _ _ h.1 (fun i a b => h.2 i _ _ (List.getElem?_eq_getElem (by simpa using a)) (List.getElem?_eq_getElem (by simpa using b)))
theorem Rns.tuple {R : Nat → Nat → Nat → Prop} {x y : List Value} (h : Rns R x y) : Rn R (.tuple ⟨x⟩) (.tuple ⟨y⟩) :=
  .tuple _ _ h.1 (fun i a b => h.2 i _ _ (List.getElem?_eq_getElem (by simpa using a)) (List.getElem?_eq_getElem (by simpa using b)))
theorem Rns.func {R : Nat → Nat → Nat → Prop} {fn : Fn} {x x' y y' : List Value} (h : Rns R x x') (h2 : Rns R y y') : Rn R (.func fn ⟨x⟩ ⟨y⟩) (.func fn ⟨x'⟩ ⟨y'⟩) :=
  .func _ _ _ _ _ h.1 h2.1 (fun i a b => h.2 i _ _ (List.getElem?_eq_getElem (by simpa using a)) (List.getElem?_eq_getElem (by simpa using b))) (fun i a b => h2.2 i _ _ (List.getElem?_eq_getElem (by simpa using a)) (List.getElem?_eq_getElem (by simpa using b)))
theorem mV_sound : ∀ (d : Nat) (ρ : Ass) (c a : Value) (k : Ass → Prop), ρ.Inj → mV d ρ c a k → ∃ ρ', ρ.Ext ρ' ∧ ρ'.Inj ∧ Rn (RA ρ') c a ∧ k ρ' := by
  intro d
  induction d with
  | zero => intro ρ c a k _ h; exact h.elim
  | succ d ih =>
    intro ρ c a k hi h
    unfold mV at h
    split at h
    · obtain ⟨h1, rfl, h2⟩ := need_spec h
      simp only [decide_eq_true_eq] at h1; subst h1
      exact ⟨ρ, .refl _, hi, .int _ _, h2⟩
    · obtain ⟨rfl, h2⟩ := h; exact ⟨ρ, .refl _, hi, .bool _, h2⟩
    · obtain ⟨rfl, h2⟩ := h; exact ⟨ρ, .refl _, hi, .str _, h2⟩
    · obtain ⟨h1, rfl, h2⟩ := need_spec h
      simp only [decide_eq_true_eq] at h1; subst h1
      exact ⟨ρ, .refl _, hi, .float _ _, h2⟩
    · exact ⟨ρ, .refl _, hi, .pnil, h⟩
    · rename_i r' o' r o
      obtain ⟨ρ', e, i, g, rfl, h2⟩ := asOne_sound hi h
      have := Rn.ptr (R := RA ρ') r' r 0 o' ⟨rfl, g⟩
      rw [Nat.zero_add] at this
      exact ⟨ρ', e, i, this, h2⟩
    · exact ⟨ρ, .refl _, hi, .snil, h⟩
    · rename_i r' o' n' e' r o n e0
      obtain ⟨h1, h3⟩ := need_spec h
      clear h
      have := Nat.eq_of_beq_eq_true h1
      subst this
      obtain ⟨ρ', e, i, g, rfl, rfl, h2⟩ := asOne_sound hi h3
      have := Rn.slice (R := RA ρ') r' r 0 o' n' e' ⟨rfl, g⟩
      rw [Nat.zero_add] at this
      exact ⟨ρ', e, i, this, h2⟩
    · rename_i r' o' n' e'
      split at h
      · obtain ⟨rfl, h2⟩ := h
        exact ⟨ρ, .refl _, hi, .slice0 _ _ _, h2⟩
      · obtain ⟨ρ', e, i, g, rfl, h2⟩ := asOne_sound hi h
        exact ⟨ρ', e, i, .slice0 _ _ _, h2⟩
    · obtain ⟨rfl, rfl, h2⟩ := h; exact ⟨ρ, .refl _, hi, .gptr _ _, h2⟩
    · obtain ⟨rfl, rfl, rfl, rfl, h2⟩ := h; exact ⟨ρ, .refl _, hi, .gsl _ _ _ _, h2⟩
    · obtain ⟨rfl, h2⟩ := h; exact ⟨ρ, .refl _, hi, .gsl0 _ _ _, h2⟩
    · rename_i x y
      cases hbig : Nat.ble 100 x.length with
      | true =>
        rw [hbig] at h
        obtain ⟨rfl, h1, h2⟩ := (show _ ∧ _ ∧ _ from h)
        exact ⟨ρ, .refl _, hi, h1.rns.agg, h2⟩
      | false =>
      rw [hbig] at h
      obtain ⟨ρ', e, i, g, h2⟩ := mGo_sound (fun ρ c a k => ih ρ c a k) _ _ _ _ hi h
      exact ⟨ρ', e, i, g.agg, h2⟩
    · obtain ⟨ρ', e, i, g, h2⟩ := mGo_sound (fun ρ c a k => ih ρ c a k) _ _ _ _ hi h
      exact ⟨ρ', e, i, g.tuple, h2⟩
    · exact ⟨ρ, .refl _, hi, .nilFunc, h⟩
    · exact ⟨ρ, .refl _, hi, .nilIface, h⟩
    · exact ⟨ρ, .refl _, hi, .mnil, h⟩
    · obtain ⟨ρ', e, i, g, h2⟩ := asOne_sound hi h
      exact ⟨ρ', e, i, .mapp _ _ ⟨rfl, g⟩, h2⟩
    · obtain ⟨h1, h2⟩ := need_spec h
      simp only [decide_eq_true_eq] at h1; subst h1
      obtain ⟨ρ', e, i, g, h3⟩ := ih _ _ _ _ hi h2
      exact ⟨ρ', e, i, .iface _ _ _ g, h3⟩
    · obtain ⟨h1, h2⟩ := need_spec h
      simp only [decide_eq_true_eq] at h1; subst h1
      obtain ⟨ρ1, e1, i1, g1, h3⟩ := mGo_sound (fun ρ c a k => ih ρ c a k) _ _ _ _ hi h2
      obtain ⟨ρ2, e2, i2, g2, h4⟩ := mGo_sound (fun ρ c a k => ih ρ c a k) _ _ _ _ i1 h3
      exact ⟨ρ2, e1.trans e2, i2, Rns.func (g1.mono (RA.ext e2)) g2, h4⟩
    · exact h.elim
def RowAs (rows : Tr Row) (ρ : Ass) (r' : Nat) (row' : Row) : Prop :=
  (∃ r row, ρ.get r' = some (some r) ∧ rows.find r = some row ∧ row'.ro = row.ro ∧ ((∃ s s', row'.ob = .cells s' ∧ row.ob = .cells s) ∨ (∃ s s', row'.ob = .map s' ∧ row.ob = .map s) ∨ (row'.ob = .iter ∧ row.ob = .iter)) ∧ Rns (RA ρ) row'.cells row.cells) ∨
  (ρ.get r' = some none ∧ row'.cells = [] ∧ row'.ro = false ∧ ∃ s', row'.ob = .cells s')
theorem RowAs.ext {rows : Tr Row} {ρ ρ2 : Ass} (h : ρ.Ext ρ2) {r' : Nat} {row' : Row} (hr : RowAs rows ρ r' row') : RowAs rows ρ2 r' row' := by
  rcases hr with ⟨r, row, h1, h2, h3, h4, h5⟩ | ⟨h1, h2⟩
  · exact .inl ⟨r, row, h _ _ h1, h2, h3, h4, h5.mono (RA.ext h)⟩
  · exact .inr ⟨h _ _ h1, h2⟩
theorem mRow_sound {rows : Tr Row} {ρ : Ass} (hi : ρ.Inj) {r' : Nat} {row' : Row} {k : Ass → Prop} (h : mRow rows ρ r' row' k) : ∃ ρ', ρ.Ext ρ' ∧ ρ'.Inj ∧ RowAs rows ρ' r' row' ∧ k ρ' := by
  unfold mRow at h
  split at h
  · rename_i r cells' ro' hg
    split at h
    · rename_i cells ro s hr
      obtain ⟨h1, rfl, h2, h3⟩ := need_spec h
      simp only [decide_eq_true_eq] at h1; subst h1
      exact ⟨ρ, .refl _, hi, .inl ⟨r, _, hg, hr, rfl, .inl ⟨_, _, rfl, rfl⟩, h2.rns⟩, h3⟩
    · exact h.elim
  · rename_i r cells' ro' hg
    split at h
    · rename_i cells ro hr
      obtain ⟨h1, h2⟩ := need_spec h
      simp only [decide_eq_true_eq] at h1; subst h1
      obtain ⟨ρ', e, i, g, h3⟩ := mGo_sound (fun ρ c a k => mV_sound 12 ρ c a k) _ _ _ _ hi h2
      exact ⟨ρ', e, i, .inl ⟨r, _, e _ _ hg, hr, rfl, .inl ⟨_, _, rfl, rfl⟩, g⟩, h3⟩
    · exact h.elim
  · rename_i cells' ro' s hg
    obtain ⟨h1, rfl, h2⟩ := need_spec h
    simp only [Bool.not_eq_true'] at h1
    exact ⟨ρ, .refl _, hi, .inr ⟨hg, rfl, h1, _, rfl⟩, h2⟩
  · rename_i r cells' ro' hg
    split at h
    · rename_i cells ro s hr
      obtain ⟨h1, rfl, h2, h3⟩ := need_spec h
      simp only [decide_eq_true_eq] at h1; subst h1
      exact ⟨ρ, .refl _, hi, .inl ⟨r, _, hg, hr, rfl, .inr (.inl ⟨_, _, rfl, rfl⟩), h2.rns⟩, h3⟩
    · exact h.elim
  · rename_i r cells' ro' hg
    split at h
    · rename_i cells ro hr
      obtain ⟨h1, h2⟩ := need_spec h
      simp only [decide_eq_true_eq] at h1; subst h1
      obtain ⟨ρ', e, i, g, h3⟩ := mGo_sound (fun ρ c a k => mV_sound 12 ρ c a k) _ _ _ _ hi h2
      exact ⟨ρ', e, i, .inl ⟨r, _, e _ _ hg, hr, rfl, .inr (.inl ⟨_, _, rfl, rfl⟩), g⟩, h3⟩
    · exact h.elim
  · rename_i r cells' ro' hg
    split at h
    · rename_i cells ro hr
      obtain ⟨h1, h2⟩ := need_spec h
      simp only [decide_eq_true_eq] at h1; subst h1
      obtain ⟨ρ', e, i, g, h3⟩ := mGo_sound (fun ρ c a k => mV_sound 12 ρ c a k) _ _ _ _ hi h2
      exact ⟨ρ', e, i, .inl ⟨r, _, e _ _ hg, hr, rfl, .inr (.inr ⟨rfl, rfl⟩), g⟩, h3⟩
    · exact h.elim
  · exact h.elim
theorem mRows_sound {rows : Tr Row} : ∀ (l : List (Nat × Row)) (ρ : Ass) (k : Ass → Prop), ρ.Inj → mRows rows ρ l k → ∃ ρ', ρ.Ext ρ' ∧ ρ'.Inj ∧ (∀ p ∈ l, RowAs rows ρ' p.1 p.2) ∧ k ρ' := by
  intro l
  induction l with
  | nil => intro ρ k hi h; exact ⟨ρ, .refl _, hi, fun p hp => by simp at hp, h⟩
  | cons p l ih =>
    intro ρ k hi h
    obtain ⟨ρ1, e1, i1, r1, h1⟩ := mRow_sound hi h
    obtain ⟨ρ2, e2, i2, r2, h2⟩ := ih _ _ i1 h1
    refine ⟨ρ2, e1.trans e2, i2, fun q hq => ?_, h2⟩
    rcases List.mem_cons.1 hq with rfl | hq
    · exact r1.ext e2
    · exact r2 q hq
theorem mSlots_sound {tm : Tr Value} : ∀ (l : List (Nat × Value)) (ρ : Ass) (k : Ass → Prop), ρ.Inj → mSlots tm l ρ k → ∃ ρ', ρ.Ext ρ' ∧ ρ'.Inj ∧ (∀ p ∈ l, ∃ v, tm.find p.1 = some v ∧ Rn (RA ρ') p.2 v) ∧ k ρ' := by
  intro l
  induction l with
  | nil => intro ρ k hi h; exact ⟨ρ, .refl _, hi, fun p hp => by simp at hp, h⟩
  | cons p l ih =>
    intro ρ k hi h
    simp only [mSlots] at h
    split at h
    · rename_i v hv
      obtain ⟨ρ1, e1, i1, r1, h1⟩ := mV_sound 12 _ _ _ _ hi h
      obtain ⟨ρ2, e2, i2, r2, h2⟩ := ih _ _ i1 h1
      refine ⟨ρ2, e1.trans e2, i2, fun q hq => ?_, h2⟩
      rcases List.mem_cons.1 hq with rfl | hq
      · exact ⟨v, hv, r1.mono (RA.ext e2)⟩
      · exact r2 q hq
    · exact h.elim
theorem idAss_get : ∀ (n a : Nat), (idAss n).get a = if a < n then some (some a) else none := by
  intro n
  induction n with
  | zero => intro a; simp [idAss, Ass.get]
  | succ n ih =>
    intro a
    simp only [idAss]
    rw [get_cons, ih]
    by_cases h : n = a
    · subst h; simp
    · rw [if_neg h]
      by_cases h2 : a < n
      · rw [if_pos h2, if_pos (by omega)]
      · rw [if_neg h2, if_neg (by omega)]
theorem idAss_inj (n : Nat) : (idAss n).Inj := trivial
def offRow (ρ : Ass) (q : Nat) : List (Nat × Row) → Bool
  | [] => true
  | x :: l => (match ρ.get x.1 with | some (some r) => !Nat.beq q r | _ => true) && offRow ρ q l
def apartIn (ρ : Ass) : List (Nat × Row) → Bool
  | [] => true
  | p :: l => (match ρ.get p.1 with | some (some q) => offRow ρ q l | _ => true) && apartIn ρ l
theorem offRow_spec {ρ : Ass} {q : Nat} : ∀ l : List (Nat × Row), offRow ρ q l = true → ∀ x ∈ l, ρ.get x.1 ≠ some (some q) := by
  intro l
  induction l with
  | nil => intro _ x hx; simp at hx
  | cons p l ih =>
    intro h x hx e
    simp only [offRow, Bool.and_eq_true] at h
    rcases List.mem_cons.1 hx with rfl | hx
    · rw [e] at h; simp at h
    · exact ih h.2 x hx e
theorem apartIn_spec {ρ : Ass} : ∀ l : List (Nat × Row), apartIn ρ l = true → ∀ x ∈ l, ∀ y ∈ l, ∀ q, ρ.get x.1 = some (some q) → ρ.get y.1 = some (some q) → x.1 = y.1 := by
  intro l
  induction l with
  | nil => intro _ x hx; simp at hx
  | cons p l ih =>
    intro h x hx y hy q h1 h2
    simp only [apartIn, Bool.and_eq_true] at h
    rcases List.mem_cons.1 hx with rfl | kx <;> rcases List.mem_cons.1 hy with rfl | ky
    · rfl
    · rw [h1] at h; exact absurd h2 (offRow_spec _ h.1 _ ky)
    · rw [h2] at h; exact absurd h1 (offRow_spec _ h.1 _ kx)
    · exact ih h.2 x kx y ky q h1 h2
def Ass.below : Ass → Nat → Bool
  | [], _ => true
  | p :: l, n => Nat.blt p.1 n && Ass.below l n
theorem below_spec : ∀ (ρ : Ass) (n a : Nat) (x : Option Nat), ρ.below n = true → ρ.get a = some x → a < n := by
  intro ρ
  induction ρ with
  | nil => intro n a x _ h; simp [Ass.get] at h
  | cons p l ih =>
    intro n a x hb h
    simp only [Ass.below, Bool.and_eq_true] at hb
    rw [get_cons] at h
    by_cases e : p.1 = a
    · have : p.1 < n := Nat.le_of_ble_eq_true hb.1; omega
    · rw [if_neg e] at h; exact ih n a x hb.2 h
end
end Go.Sy
namespace Go.Sy
noncomputable section
open Go.Ev Go.RowKit
def mkOv : List (Nat × Value) → Tr Value
  | [] => .leaf
  | p :: r => (mkOv r).put p.1 (some p.2)
theorem mkOv_mem : ∀ (l : List (Nat × Value)) (r : Nat) (v : Value), (∀ p ∈ l, p.1 < Tr.top) → (mkOv l).find r = some v → (r, v) ∈ l := by
  intro l
  induction l with
  | nil => intro r v _ h; simp [mkOv, Tr.find_leaf] at h
  | cons p l ih =>
    intro r v ht h
    simp only [mkOv] at h
    rw [Tr.find_put _ _ _ _ (ht p (by simp))] at h
    split at h
    · rename_i e; simp at h; subst h; subst e; simp
    · exact List.mem_cons_of_mem _ (ih r v (fun q hq => ht q (by simp [hq])) h)
def mkR : List (Nat × Row) → Tr Row
  | [] => .leaf
  | p :: l => (mkR l).put p.1 (some p.2)
theorem mkR_mem : ∀ (l : List (Nat × Row)) (r : Nat) (row : Row), (∀ p ∈ l, p.1 < Tr.top) → (mkR l).find r = some row → (r, row) ∈ l := by
  intro l
  induction l with
  | nil => intro r row _ h; simp [mkR, Tr.find_leaf] at h
  | cons p l ih =>
    intro r row ht h
    simp only [mkR] at h
    rw [Tr.find_put _ _ _ _ (ht p (by simp))] at h
    split at h
    · rename_i e; simp at h; subst h; subst e; simp
    · exact List.mem_cons_of_mem _ (ih r row (fun q hq => ht q (by simp [hq])) h)
theorem VR.shift {μ μ' : Mu} (hm : ∀ r p, μ r = some p → ∃ r', μ' r' = some p) {v w : Value} (h : VR μ v w) : ∃ v', VR μ' v' w := by
  induction h with
  | bool b => exact ⟨_, .bool b⟩
  | int k n => exact ⟨_, .int k n⟩
  | float k b => exact ⟨_, .float k b⟩
  | nan k b b' h h' => exact ⟨_, .nan k b b' h h'⟩
  | mnil => exact ⟨_, .mnil⟩
  | mapp r b h => obtain ⟨r', h'⟩ := hm _ _ h; exact ⟨_, .mapp r' b h'⟩
  | complex k a b => exact ⟨_, .complex k a b⟩
  | str s => exact ⟨_, .str s⟩
  | pnil => exact ⟨_, .pnil⟩
  | ptr r k b o s h => obtain ⟨r', h'⟩ := hm _ _ h; exact ⟨_, .ptr r' k b o s h'⟩
  | snil => exact ⟨_, .snil⟩
  | slice r k n e b o s c h hn hc => obtain ⟨r', h'⟩ := hm _ _ h; exact ⟨_, .slice r' k n e b o s c h' hn hc⟩
  | slice0 r k e a => exact ⟨_, .slice0 0 0 0 a⟩
  | gptr z k i b o s h => obtain ⟨r', h'⟩ := hm _ _ h; exact ⟨_, .ptr r' k b o s h'⟩
  | gsl z k n e i b o s c h hn hc => obtain ⟨r', h'⟩ := hm _ _ h; exact ⟨_, .slice r' k n e b o s c h' hn hc⟩
  | gsl0 z k e a => exact ⟨_, .gsl0 0 0 0 a⟩
  | func fn x y x' y' hx hy _ _ ih1 ih2 =>
    refine ⟨.func fn (Array.ofFn fun i : Fin x.size => (ih1 i.1 i.2 (by omega)).choose) (Array.ofFn fun i : Fin y.size => (ih2 i.1 i.2 (by omega)).choose), .func _ _ _ _ _ (by simpa using hx) (by simpa using hy) (fun i a b => ?_) (fun i a b => ?_)⟩
    · simp only [Array.getElem_ofFn]; exact (ih1 i (by simpa using a) b).choose_spec
    · simp only [Array.getElem_ofFn]; exact (ih2 i (by simpa using a) b).choose_spec
  | nilFunc => exact ⟨_, .nilFunc⟩
  | iface t v v' _ ih => obtain ⟨u, hu⟩ := ih; exact ⟨_, .iface t u _ hu⟩
  | nilIface => exact ⟨_, .nilIface⟩
  | agg x x' hx _ ih =>
    refine ⟨.agg (Array.ofFn fun i : Fin x.size => (ih i.1 i.2 (by omega)).choose), .agg _ _ (by simpa using hx) (fun i a b => ?_)⟩
    simp only [Array.getElem_ofFn]; exact (ih i (by simpa using a) b).choose_spec
  | tuple x x' hx _ ih =>
    refine ⟨.tuple (Array.ofFn fun i : Fin x.size => (ih i.1 i.2 (by omega)).choose), .tuple _ _ (by simpa using hx) (fun i a b => ?_)⟩
    simp only [Array.getElem_ofFn]; exact (ih i (by simpa using a) b).choose_spec
theorem slots_all {μ : Mu} (tmps : Array Value) (sl : List (Nat × Value)) (ht : ∀ p ∈ sl, p.1 < tmps.size) (hsl : ∀ p ∈ sl, VR μ p.2 (tmps.getD p.1 undef)) (hex : ∀ i, ∃ v, VR μ v (tmps.getD i undef)) (hn : tmps.size ≤ 1000000) :
    ∃ tm : Tr Value, (∀ i, VR μ ((tm.find i).getD undef) (tmps.getD i undef)) ∧ Sub (mkOv sl) tm := by
  have htop : tmps.size ≤ Tr.top := by unfold Tr.top; omega
  let f : Nat → Value := fun i => match (mkOv sl).find i with | some v => v | none => (hex i).choose
  have hf : ∀ i, VR μ (f i) (tmps.getD i undef) := by
    intro i
    show VR μ (match (mkOv sl).find i with | some v => v | none => (hex i).choose) _
    split
    · rename_i v hv
      exact hsl _ (mkOv_mem sl i v (fun p hp => by have := ht p hp; omega) hv)
    · exact (hex i).choose_spec
  have hfind : ∀ m, (ofL ((List.range tmps.size).map f) 0 .leaf).find m = if m < tmps.size then some (f m) else none := by
    intro m
    rw [ofL_find _ _ _ _ (by simpa using htop)]
    by_cases h : m < tmps.size
    · rw [if_pos ⟨by omega, by simpa using h⟩, if_pos h]
      simp [List.getElem?_range h]
    · rw [if_neg (by simpa using h), if_neg h]; simp [Tr.find_leaf]
  refine ⟨ofL ((List.range tmps.size).map f) 0 .leaf, fun i => ?_, fun i v hv => ?_⟩
  · rw [hfind]
    by_cases h : i < tmps.size
    · rw [if_pos h]; exact hf i
    · rw [if_neg h]
      have : tmps.getD i undef = undef := by rw [Array.getD_eq_getD_getElem?, Array.getElem?_eq_none (by omega)]; rfl
      rw [this]; exact VR.undef μ
  · have hm := mkOv_mem sl i v (fun p hp => by have := ht p hp; omega) hv
    rw [hfind, if_pos (ht _ hm)]
    show some (match (mkOv sl).find i with | some v => v | none => (hex i).choose) = some v
    rw [hv]
def muOf (μ : Mu) (ρ : Ass) (z : Nat) : Mu := fun r => match ρ.get r with
  | some (some q) => μ q
  | some none => some (z, 0, 0)
  | none => if Tr.top ≤ r then (if (r - Tr.top) % 2 = 1 then μ ((r - Tr.top) / 2) else μ r) else none
def OnlyG (n0 : Nat) (μ : Mu) : Prop := ∀ r, n0 ≤ r → (∀ z i, r ≠ gAt z i) → μ r = none
theorem gOk_vr {μ μ' : Mu} (hG : GLe μ μ') {v w : Value} (hv : gOk v = true) (h : VR μ v w) : VR μ' v w := by
  rcases gOk_cases hv with ⟨x, rfl⟩ | ⟨k, n, rfl⟩ | ⟨x, rfl⟩ | ⟨k, n, rfl⟩ | ⟨z, o, n, e, rfl⟩ | ⟨z, o, rfl⟩ | rfl | rfl | rfl | rfl
  · cases h; exact .bool _
  · cases h; exact .int _ _
  · cases h; exact .str _
  · cases h with
    | float => exact .float _ _
    | nan _ _ _ h1 h2 => exact .nan _ _ _ h1 h2
  · cases h with
    | gsl _ _ _ _ i b o s c hb hn hc => exact .gsl _ _ _ _ i b o s c (hG _ _ _ hb) hn hc
    | gsl0 => exact .gsl0 _ _ _ _
  · cases h with
    | gptr _ _ i b o s hb => exact .gptr _ _ i b o s (hG _ _ _ hb)
  · cases h; exact .snil
  · cases h; exact .pnil
  · cases h; exact .nilFunc
  · cases h; exact .nilIface
theorem gAll_vrs {μ μ' : Mu} (hG : GLe μ μ') {l ws : List Value} (hl : gAll l = true) (h : VRs μ l ws) : VRs μ' l ws :=
  ⟨h.1, fun i v w h1 h2 => gOk_vr hG (by unfold gAll at hl; rw [List.all_eq_true] at hl; exact hl _ (List.mem_of_getElem? h1)) (h.2 i v w h1 h2)⟩
theorem gIn_g {μ μ' : Mu} (hG : GLe μ μ') {w : World} {z b o s : Nat} (h : GIn μ w z b o s) : GIn μ' w z b o s := by
  obtain ⟨c, e, fr, h1, h2, h3, h4⟩ := h
  exact ⟨c, e, fr, h1, h2, h3, gAll_vrs hG (gCells_all z) h4⟩
section
variable {B : Base} {μ0 : Mu} {F0 : Nat → Option Row} {w0 : World} {μ : Mu} {w : World} {ρ : Ass}
theorem muOf_here (z : Nat) : ∀ r' r d, RA ρ r' r d → ∀ b o s, μ r = some (b, o, s) → muOf μ ρ z r' = some (b, o + d, s) := by
  rintro r' r d ⟨rfl, h⟩ b o s hm
  unfold muOf
  rw [h]; exact hm
theorem muOf_shift (z : Nat) {n' : Nat} (hb : ρ.below n' = true) (hn : n' ≤ Tr.top) : ∀ r p, μ r = some p → ∃ r', muOf μ ρ z r' = some p := by
  intro r p h
  refine ⟨Tr.top + (2 * r + 1), ?_⟩
  unfold muOf
  have : ρ.get (Tr.top + (2 * r + 1)) = none := by
    cases hg : ρ.get (Tr.top + (2 * r + 1)) with
    | none => rfl
    | some x => have := below_spec _ _ _ _ hb hg; omega
  rw [this]
  simp only
  rw [if_pos (by omega), if_pos (by omega), show (Tr.top + (2 * r + 1) - Tr.top) / 2 = r by omega]
  exact h
theorem muOf_g (z : Nat) {n' : Nat} (hb : ρ.below n' = true) (hn : n' ≤ Tr.top) (y i : Nat) : muOf μ ρ z (gAt y i) = μ (gAt y i) := by
  have : ρ.get (gAt y i) = none := by
    cases hg : ρ.get (gAt y i) with
    | none => rfl
    | some x => have := below_spec _ _ _ _ hb hg; have := gAt_ge y i; omega
  unfold muOf
  rw [this]
  simp only
  rw [if_pos (gAt_ge y i), if_neg (by unfold gAt; omega)]
theorem muOf_gle (z : Nat) {n' : Nat} (hb : ρ.below n' = true) (hn : n' ≤ Tr.top) : GLe μ (muOf μ ρ z) := fun y i _ h => (muOf_g z hb hn y i).trans h
theorem cells_void {row : Row} {s : Bool} (ho : row.ob = .cells s) : row.void = row.cells.isEmpty := by unfold Row.void; rw [ho]
theorem Rns.atoms {R : Nat → Nat → Nat → Prop} {l : List Value} {s : ByteArray} {k : IntKind} {n : Int} (h : Rns R l [.string s, .int k n]) : l = [.string s, .int k n] := by
  obtain ⟨h1, h2⟩ := h
  match l, h1 with
  | [a, b], _ =>
    have e1 := h2 0 a _ rfl rfl
    have e2 := h2 1 b _ rfl rfl
    cases e1; cases e2; rfl
theorem WR.under {n n' : Nat} {rows : Tr Row} (hw : WR B μ rows.find n w) (hole : ∀ z, ¬ B.hole z) {rl : List (Nat × Row)} (hi : apartIn ρ rl = true) (hb : ρ.below n' = true) (hn : n' ≤ Tr.top)
    (hrows : ∀ p ∈ rl, p.1 < Tr.top ∧ RowAs rows ρ p.1 p.2) :
    WR B (muOf μ ρ w.heap.size) (mkR rl).find n' w ∧ ∀ b, Owns (muOf μ ρ w.heap.size) (mkR rl).find b → Owns μ rows.find b := by
  have at' : ∀ r row', (mkR rl).find r = some row' → RowAs rows ρ r row' := fun r row' h => (hrows _ (mkR_mem rl r row' (fun p hp => (hrows p hp).1) h)).2
  have back : ∀ r row', (mkR rl).find r = some row' → row'.void = false → ∃ q row, ρ.get r = some (some q) ∧ rows.find q = some row ∧ row.void = false ∧ row'.ro = row.ro ∧ muOf μ ρ w.heap.size r = μ q ∧ ((∃ s s', row'.ob = .cells s' ∧ row.ob = .cells s) ∨ (∃ s s', row'.ob = .map s' ∧ row.ob = .map s) ∨ (row'.ob = .iter ∧ row.ob = .iter)) ∧ Rns (RA ρ) row'.cells row.cells := by
    intro r row' h hv
    rcases at' r row' h with ⟨q, row, h1, h2, h3, ⟨s, s', h4, h5⟩ | ⟨s, s', h4, h5⟩ | ⟨h4, h5⟩, h6⟩ | ⟨h1, h2, h3, s', h4⟩
    rotate_left
    · exact ⟨q, row, h1, h2, by unfold Row.void; rw [h5], h3, by unfold muOf; rw [h1], .inr (.inl ⟨s, s', h4, h5⟩), h6⟩
    · exact ⟨q, row, h1, h2, by unfold Row.void; rw [h5], h3, by unfold muOf; rw [h1], .inr (.inr ⟨h4, h5⟩), h6⟩
    rotate_left
    · refine ⟨q, row, h1, h2, ?_, h3, by unfold muOf; rw [h1], .inl ⟨s, s', h4, h5⟩, h6⟩
      rw [cells_void h5]; rw [cells_void h4] at hv
      have := h6.1
      cases hc : row.cells with
      | nil => rw [hc] at this; simp at this; rw [this] at hv; simp at hv
      | cons => rfl
    · rw [cells_void h4, h2] at hv; simp at hv
  have hown : ∀ b, Owns (muOf μ ρ w.heap.size) (mkR rl).find b → Owns μ rows.find b := by
    rintro b ⟨r, row', o, s, h1, h2, h3, h4⟩
    obtain ⟨q, row, a1, a2, a3, a4, a5, _⟩ := back r row' h1 h2
    exact ⟨q, row, o, s, a2, a3, by rw [← a4]; exact h3, by rw [← a5]; exact h4⟩
  have hgle := muOf_gle (μ := μ) w.heap.size hb hn
  refine ⟨⟨hw.base, fun z hz => absurd hz (hole z), fun r hr hr2 => ?_, fun r row' h hv => ?_, fun r row' h hv => ?_, fun r1 r2 x y b o s o' s' hx hy hxv hyv hxr hyr hm1 hm2 => ?_,
    fun z i b o s hm => ⟨gIn_g hgle (hw.gho z i b o s ((muOf_g _ hb hn z i).symm.trans hm)).1, fun ho => (hw.gho z i b o s ((muOf_g _ hb hn z i).symm.trans hm)).2 (hown b ho)⟩,
    by obtain ⟨K, hK⟩ := hw.gfr; exact ⟨K, fun z i hi => (muOf_g _ hb hn z i).trans (hK z i hi)⟩, hw.tab⟩, hown⟩
  · unfold muOf
    cases hg : ρ.get r with
    | none => simp only; rw [if_neg (by omega)]
    | some x => have := below_spec _ _ _ _ hb hg; omega
  · obtain ⟨q, row, h1, h2, h3, h4, h5, ⟨s, s', h6, h7⟩ | ⟨s, s', h6, h7⟩ | ⟨h6, h7⟩, h8⟩ := back r row' h hv
    rotate_left
    rotate_left
    · obtain ⟨cells', ro', ob'⟩ := row'
      obtain ⟨cells, ro, ob⟩ := row
      simp only at h4 h6 h7 h8
      subst h4; subst h6; subst h7
      obtain ⟨b, t, p, g1, g2, g3, g4, g5⟩ := hw.rows q _ h2 h3
      simp only at g3
      subst g3
      exact ⟨b, t, p, by rw [h5]; exact g1, g2, h8.atoms, g4, g5⟩
    rotate_left
    · obtain ⟨cells', ro', ob'⟩ := row'
      obtain ⟨cells, ro, ob⟩ := row
      simp only at h4 h6 h7 h8
      subst h4; subst h6; subst h7
      obtain ⟨b, es, t, g1, g2, g3, g4, g5⟩ := hw.rows q _ h2 h3
      exact ⟨b, es, t, by rw [h5]; exact g1, g2, h8.here (muOf_here _) hgle g3, g4, g5⟩
    obtain ⟨cells', ro', ob'⟩ := row'
    obtain ⟨cells, ro, ob⟩ := row
    simp only at h4 h6 h7 h8
    subst h4; subst h6; subst h7
    obtain ⟨b, o, s, c, e, lo, hi', g1, g2, g3, g4, g5, g6⟩ := hw.rows q _ h2 h3
    simp only at g4 g5
    refine ⟨b, o, s, c, e, lo, hi', by rw [h5]; exact g1, g2, g3, by simp only; rw [h8.1]; exact g4, ?_, g6⟩
    simp only
    rw [h8.1]
    exact h8.here (muOf_here _) hgle g5
  · rcases at' r row' h with ⟨q, row, h1, h2, h3, ⟨s, s', h4, h5⟩ | ⟨s, s', h4, h5⟩ | ⟨h4, h5⟩, h6⟩ | ⟨h1, h2, h3, s', h4⟩
    rotate_left
    · unfold Row.void at hv; rw [h4] at hv; simp at hv
    · unfold Row.void at hv; rw [h4] at hv; simp at hv
    rotate_left
    · have hv2 : row.void = true := by
        rw [cells_void h5]; rw [cells_void h4] at hv
        have := h6.1
        cases hc : row.cells with
        | nil => rfl
        | cons => rw [hc] at this; cases hc' : row'.cells <;> simp_all
      obtain ⟨b, o, s, g1, g2⟩ := hw.vrow q row h2 hv2
      exact ⟨b, o, s, by unfold muOf; rw [h1]; exact g1, by rw [h3]; exact g2⟩
    · exact ⟨w.heap.size, 0, 0, by unfold muOf; rw [h1], fun _ => rfl⟩
  · obtain ⟨q1, row1, a1, a2, a3, a4, a5, _⟩ := back r1 x hx hxv
    obtain ⟨q2, row2, b1, b2, b3, b4, b5, _⟩ := back r2 y hy hyv
    rw [a5] at hm1; rw [b5] at hm2
    have := hw.apart q1 q2 row1 row2 b o s o' s' a2 b2 a3 b3 (by rw [← a4]; exact hxr) (by rw [← b4]; exact hyr) hm1 hm2
    subst this
    exact apartIn_spec _ hi _ (mkR_mem rl r1 x (fun p hp => (hrows p hp).1) hx) _ (mkR_mem rl r2 y (fun p hp => (hrows p hp).1) hy) _ a1 b1
theorem muOf_le (z : Nat) {n0 n' : Nat} (h0 : OnlyG n0 μ0) (hid : (idAss n0).Ext ρ) (hb : ρ.below n' = true) (hn : n' ≤ Tr.top) (hl : Le μ0 μ) : Le μ0 (muOf μ ρ z) := by
  intro r p hp
  rcases Nat.lt_or_ge r n0 with hr | hr
  · have := hid r (some r) (by rw [idAss_get, if_pos hr])
    unfold muOf
    rw [this]; exact hl _ _ hp
  · by_cases hg : ∃ y i, r = gAt y i
    · obtain ⟨y, i, rfl⟩ := hg
      rw [muOf_g z hb hn]; exact hl _ _ hp
    · rw [h0 r hr (fun y i e => hg ⟨y, i, e⟩)] at hp; simp at hp
theorem SR.under {cs0 : List Frame} {kd : CallKind} {tm : Tr Value} {nt n' n0 : Nat} {h : Hp} {a : Act} {cs : List Frame} (hs : SR B μ0 F0 w0 cs0 kd μ ⟨tm, nt, []⟩ none h a cs w) (hole : ∀ z, ¬ B.hole z) (h0 : OnlyG n0 μ0)
    {sl : List (Nat × Value)} {rl : List (Nat × Row)} (hi : apartIn ρ rl = true) (hid : (idAss n0).Ext ρ) (hb : ρ.below n' = true) (hn : n' ≤ Tr.top) (hnt : nt ≤ 1000000)
    (hslots : ∀ p ∈ sl, p.1 < nt ∧ ∃ v, tm.find p.1 = some v ∧ Rn (RA ρ) p.2 v) (hrows : ∀ p ∈ rl, p.1 < Tr.top ∧ RowAs h.rows ρ p.1 p.2) :
    ∃ μ' tm', Sub (mkOv sl) tm' ∧ SR B μ0 F0 w0 cs0 kd μ' ⟨tm', nt, []⟩ none ⟨mkR rl, n'⟩ a cs w := by
  obtain ⟨k1, k2⟩ := WR.under hs.wr hole hi hb hn hrows
  have hsz : a.tmps.size = nt := hs.ar.size
  obtain ⟨tm', t1, t2⟩ := slots_all (μ := muOf μ ρ w.heap.size) a.tmps sl (fun p hp => by rw [hsz]; exact (hslots p hp).1)
    (fun p hp => by
      obtain ⟨_, v, h1, h2⟩ := hslots p hp
      have := hs.ar.get p.1
      simp only [h1, Option.getD_some] at this
      exact h2.here (muOf_here _) (muOf_gle _ hb hn) _ this)
    (fun i => VR.shift (muOf_shift _ hb hn) (hs.ar.get i)) (by omega)
  refine ⟨muOf μ ρ w.heap.size, tm', t2, ⟨hsz, t1, hs.ar.dlen, fun i d d' h1 => by simp at h1⟩, k1, ⟨hs.kp.os, hs.kp.tape, hs.kp.output, hs.kp.size, hs.kp.block, fun b hb => hs.kp.owns b (k2 b hb), fun z i b o s hm => hs.kp.gnew z i b o s ((muOf_g _ hb hn z i).symm.trans hm)⟩, muOf_le _ h0 hid hb hn hs.le, hs.cr, fun h => by simp at h⟩
end
end
end Go.Sy
namespace Go.Sy
noncomputable section
open Go.Ev Go.RowKit
section
variable (E : Env) (n0 : Nat)
def PostK (K : KO) (B : Base) (μ0 : Mu) (F0 : Nat → Option Row) (w0 : World) (cs0 : List Frame) (kd : CallKind) (e : Exit) (a : Act) (cs : List Frame) (w : World) : Prop :=
  ∃ x, KS K x ∧ Post B μ0 F0 w0 cs0 kd x e a cs w
def OkM (it : Bool) (c : Code) (fr : Fr) (u : Option FrameMode) (h : Hp) (K : KO) : Prop :=
  ∀ (B : Base) (μ0 : Mu) (F0 : Nat → Option Row) (w0 : World) (cs0 : List Frame) (kd : CallKind) (μ : Mu) (a : Act) (cs : List Frame) (w : World) (tm : Tr Value),
    (∀ z, ¬ B.hole z) → OnlyG n0 μ0 → Sub fr.tm tm → SR B μ0 F0 w0 cs0 kd μ ⟨tm, fr.nt, fr.df⟩ u h a cs w → WI E.P kd (itemOf it c) (PostK K B μ0 F0 w0 cs0 kd) a cs w
variable {E} {n0}
theorem OkM.of_okC (hm : E.P.follows .mixedOrders = true) (ho : CallsOk E.P (oOf E)) {it : Bool} {c : Code} {fr : Fr} {u : Option FrameMode} {h : Hp} {K : KO} (hk : OkC E it c fr u h K) : OkM E n0 it c fr u h K := by
  intro B μ0 F0 w0 cs0 kd μ a cs w tm _ _ hs hsr
  obtain ⟨n, x, h1, h2⟩ := hk tm hs
  exact wi_mono (ev_ok hm ho n B it c _ u h x μ0 F0 w0 cs0 kd μ a cs w h1 hsr) fun e a cs w hp => ⟨x, h2, hp⟩
theorem OkM.mono {it : Bool} {c : Code} {fr : Fr} {u : Option FrameMode} {h : Hp} {K K' : KO} (hk : ∀ x, K x → K' x) (ho : OkM E n0 it c fr u h K) : OkM E n0 it c fr u h K' := by
  intro B μ0 F0 w0 cs0 kd μ a cs w tm h1 h2 h3 h4
  refine wi_mono (ho B μ0 F0 w0 cs0 kd μ a cs w tm h1 h2 h3 h4) ?_
  rintro e a cs w ⟨x, ⟨ov, k1, k2⟩, hp⟩
  exact ⟨x, ⟨ov, k1, hk _ k2⟩, hp⟩
theorem OkM.then {it : Bool} {c : Code} {fr : Fr} {u : Option FrameMode} {h : Hp} {K1 : KO} {B : Base} {μ0 : Mu} {F0 : Nat → Option Row} {w0 : World} {cs0 : List Frame} {kd : CallKind} {μ : Mu} {a : Act} {cs : List Frame} {w : World} {tm : Tr Value}
    {X : Act → List Frame → World → Prop} {Q : Exit → Act → List Frame → World → Prop} (ho : OkM E n0 it c fr u h K1) (h1 : ∀ z, ¬ B.hole z) (h2 : OnlyG n0 μ0) (h3 : Sub fr.tm tm) (h4 : SR B μ0 F0 w0 cs0 kd μ ⟨tm, fr.nt, fr.df⟩ u h a cs w)
    (hn : ∀ fr' u' h' ov μ' a' cs' w', K1 (.normal, ⟨ov, fr'.nt, fr'.df⟩, u', h') → Sub ov fr'.tm → SR B μ0 F0 w0 cs0 kd μ' fr' u' h' a' cs' w' → X a' cs' w')
    (hx : ∀ e' fr' u' h' ov e a' cs' w', e' ≠ Ex.normal → K1 (e', ⟨ov, fr'.nt, fr'.df⟩, u', h') → Sub ov fr'.tm → Post B μ0 F0 w0 cs0 kd (e', fr', u', h') e a' cs' w' → Q e a' cs' w') :
    WI E.P kd (itemOf it c) (Then X Q) a cs w := by
  refine wi_mono (ho B μ0 F0 w0 cs0 kd μ a cs w tm h1 h2 h3 h4) ?_
  rintro e a' cs' w' ⟨⟨e', fr', u', h'⟩, ⟨ov, k1, k2⟩, μ', hs, her, hk⟩
  simp only at k1 k2 hs her hk
  cases e with
  | normal =>
    have : e' = .normal := by cases e' <;> first | rfl | exact her.elim
    subst this
    exact hn fr' u' h' ov μ' a' cs' w' k2 k1 hs
  | _ =>
    have hne : e' ≠ .normal := by intro e0; subst e0; exact her.elim
    exact hx e' fr' u' h' ov _ a' cs' w' hne k2 k1 ⟨μ', hs, her, hk⟩
variable (E)
def mStep (M : FuncId → List Nat → Option Spec) (n : Nat) (rec : SRec) : SRec
  | f, p, true, c, fr, u, h, K => sRound rec f p c fr u h K
  | f, p, false, c, fr, u, h, K =>
    match M f p with
    | some spec => spec fr u h K
    | none =>
      match c with
      | .skip => K (.normal, fr, u, h)
      | .ret => K (.ret, fr, u, h)
      | .exit id => K (.exit id, fr, u, h)
      | .seq x y => rec f (0 :: p) false x fr u h fun r =>
        match r with
        | (.normal, fr', u', h') => rec f (1 :: p) false y fr' u' h' K
        | r => K r
      | .cond c x y =>
        match kv fr.tm c with
        | some (.bool b) => br b (sLit fr c true fun fr => rec f (0 :: p) false x fr u h K) (sLit fr c false fun fr => rec f (1 :: p) false y fr u h K)
        | _ => False
      | .block id c => rec f (0 :: p) false c fr u h fun r =>
        match r with
        | (.exit j, fr', u', h') => bif Nat.beq j id then K (.normal, fr', u', h') else K (.exit j, fr', u', h')
        | r => K r
      | .loop c => sRound rec f p c fr u h K
      | .region _ ops false => sSeq E (sCallF E (sev E n)) ops ops.toList fr u h K
      | .region _ ops true => sDraw E (sCallF E (sev E n)) ops fr h fun e fr' h' => K (e, fr', u, h')
      | _ => False
def mev (M : FuncId → List Nat → Option Spec) : Nat → SRec
  | 0 => fun _ _ _ _ _ _ _ _ => False
  | n + 1 => mStep E M n (mev M n)
def LMOk (n0 : Nat) (M : FuncId → List Nat → Option Spec) : Prop := ∀ f p spec fn c0 c, M f p = some spec → E.P.funcs[f]? = some fn → fn.body = some c0 → codeAt c0 p = some c → ∀ fr u h K, spec fr u h K → OkM E n0 false c fr u h K
def MevOk (n0 : Nat) (rec : SRec) : Prop := ∀ f fn c0, E.P.funcs[f]? = some fn → fn.body = some c0 → ∀ p it c fr u h K, codeAt c0 p = some (if it then .loop c else c) → rec f p it c fr u h K → OkM E n0 it c fr u h K
variable {E}
theorem sRound_okM {rec : SRec} (hrec : MevOk E n0 rec) {f : FuncId} {fn : Func} {c0 : Code} (hf : E.P.funcs[f]? = some fn) (hb : fn.body = some c0) {p : List Nat} {c : Code} (hp : codeAt c0 p = some (.loop c)) {fr : Fr} {u : Option FrameMode} {h : Hp} {K : KO}
    (he : sRound rec f p c fr u h K) (it : Bool) : OkM E n0 it (if it then c else .loop c) fr u h K := by
  intro B μ0 F0 w0 cs0 kd μ a cs w tm h1 h2 h3 h4
  unfold sRound at he
  have hit : itemOf it (if it then c else .loop c) = .code (.loop c) ∨ itemOf it (if it then c else .loop c) = .inLoop c := by cases it <;> simp [itemOf]
  refine wi_round hit ?_
  have := hrec f fn c0 hf hb (0 :: p) false c _ _ _ _ (by simp [codeAt, hp]) he
  refine OkM.then this h1 h2 h3 h4 (fun fr' u' h' ov μ' a' cs' w' k1 k2 k3 => ?_) (fun e' fr' u' h' ov e a' cs' w' hne k1 k2 k3 => ?_)
  · exact hrec f fn c0 hf hb p true c ⟨ov, fr'.nt, fr'.df⟩ u' h' K (by simpa using hp) k1 B μ0 F0 w0 cs0 kd μ' a' cs' w' fr'.tm h1 h2 k2 k3
  · exact ⟨_, ⟨ov, k2, by cases e' <;> first | exact absurd rfl hne | exact k1⟩, k3⟩
theorem mStep_okM (hm : E.P.follows .mixedOrders = true) (ho : CallsOk E.P (oOf E)) (hL : LOk E) {M : FuncId → List Nat → Option Spec} (hM : LMOk E n0 M) {n : Nat} {rec : SRec} (hrec : MevOk E n0 rec) : MevOk E n0 (mStep E M n rec) := by
  intro f fn c0 hf hb p it c fr u h K hp he
  cases it with
  | true => exact sRound_okM hrec hf hb (by simpa using hp) he true
  | false =>
    simp only [Bool.false_eq_true, if_false] at hp
    simp only [mStep] at he
    split at he
    · rename_i spec hsp; exact hM f p spec fn c0 c hsp hf hb hp fr u h K he
    · cases c with
      | skip => exact OkM.of_okC hm ho fun tm hs => ⟨1, _, rfl, fr.tm, hs, he⟩
      | ret => exact OkM.of_okC hm ho fun tm hs => ⟨1, _, rfl, fr.tm, hs, he⟩
      | exit id => exact OkM.of_okC hm ho fun tm hs => ⟨1, _, rfl, fr.tm, hs, he⟩
      | loop c => exact sRound_okM hrec hf hb hp he false
      | seq x y =>
        intro B μ0 F0 w0 cs0 kd μ a cs w tm h1 h2 h3 h4
        refine wi_seq ?_
        have := hrec f fn c0 hf hb (0 :: p) false x _ _ _ _ (by simp [codeAt, hp]) he
        refine OkM.then this h1 h2 h3 h4 (fun fr' u' h' ov μ' a' cs' w' k1 k2 k3 => ?_) (fun e' fr' u' h' ov e a' cs' w' hne k1 k2 k3 => ?_)
        · exact hrec f fn c0 hf hb (1 :: p) false y ⟨ov, fr'.nt, fr'.df⟩ u' h' K (by simp [codeAt, hp]) k1 B μ0 F0 w0 cs0 kd μ' a' cs' w' fr'.tm h1 h2 k2 k3
        · exact ⟨_, ⟨ov, k2, by cases e' <;> first | exact absurd rfl hne | exact k1⟩, k3⟩
      | cond x a b =>
        simp only at he
        split at he
        · rename_i bb hx
          intro B μ0 F0 w0 cs0 kd μ a' cs w tm h1 h2 h3 h4
          have hx' := kv_le h3 _ _ hx
          have hv := opV_sound h4.ar _ _ hx'
          have hev : a'.eval x = .bool bb := by generalize a'.eval x = y at *; cases hv; rfl
          rcases br_spec he with ⟨rfl, hh⟩ | ⟨rfl, hh⟩
          · obtain ⟨ov, k1, k2⟩ := sLit_sound hh h3 hx
            exact wi_cond hev (hrec f fn c0 hf hb (0 :: p) false a _ _ _ _ (by simp [codeAt, hp]) k2 B μ0 F0 w0 cs0 kd μ a' cs w tm h1 h2 k1 h4)
          · obtain ⟨ov, k1, k2⟩ := sLit_sound hh h3 hx
            exact wi_cond hev (hrec f fn c0 hf hb (1 :: p) false b _ _ _ _ (by simp [codeAt, hp]) k2 B μ0 F0 w0 cs0 kd μ a' cs w tm h1 h2 k1 h4)
        · exact he.elim
      | block id c =>
        intro B μ0 F0 w0 cs0 kd μ a cs w tm h1 h2 h3 h4
        refine wi_block ?_
        have := hrec f fn c0 hf hb (0 :: p) false c _ _ _ _ (by simp [codeAt, hp]) he
        refine wi_mono (this B μ0 F0 w0 cs0 kd μ a cs w tm h1 h2 h3 h4) ?_
        rintro e a1 cs1 w1 ⟨⟨e', fr', u', h'⟩, ⟨ov, k1, k2⟩, μ1, hs1, her, hk⟩
        simp only at k1 k2 hs1 her hk
        cases e with
        | exit j =>
          cases e' <;> first | exact her.elim | skip
          rename_i j'
          have her' : j' = j := her
          subst her'
          simp only at k2
          cases hj : Nat.beq j' id with
          | true =>
            rw [hj] at k2
            have e0 := Nat.eq_of_beq_eq_true hj
            simp only [InBlock, e0, if_true]
            exact ⟨(.normal, fr', u', h'), ⟨ov, k1, k2⟩, μ1, hs1, trivial, hk⟩
          | false =>
            rw [hj] at k2
            have : j' ≠ id := by intro e0; subst e0; simp at hj
            simp only [InBlock, this, if_false]
            exact ⟨(.exit j', fr', u', h'), ⟨ov, k1, k2⟩, μ1, hs1, rfl, hk⟩
        | _ =>
          cases e' <;> first | exact her.elim | exact ⟨(.normal, fr', u', h'), ⟨ov, k1, k2⟩, μ1, hs1, her, hk⟩ | exact ⟨(.ret, fr', u', h'), ⟨ov, k1, k2⟩, μ1, hs1, her, hk⟩ | exact ⟨(.panic _, fr', u', h'), ⟨ov, k1, k2⟩, μ1, hs1, her, hk⟩
      | region id ops d =>
        cases d with
        | false =>
          refine OkM.of_okC hm ho fun tm hs => ?_
          obtain ⟨n', x, h1, h2⟩ := sSeq_sound E (fam E) (sCallF_sound E (sev_sound E hL n)) ops _ _ _ _ tm he hs
          exact ⟨n' + 1, x, h1, h2⟩
        | true =>
          refine OkM.of_okC hm ho fun tm hs => ?_
          obtain ⟨n', ex, ov, tm', h', h1, h2, h3⟩ := sDraw_sound E (fam E) (sCallF_sound E (sev_sound E hL n)) he hs
          exact ⟨n' + 1, (ex, ⟨tm', fr.nt, fr.df⟩, u, h'), by simp only [ev, evStep, h1], ov, h2, h3⟩
      | _ => exact he.elim
theorem mev_okM (hm : E.P.follows .mixedOrders = true) (ho : CallsOk E.P (oOf E)) (hL : LOk E) {M : FuncId → List Nat → Option Spec} (hM : LMOk E n0 M) : ∀ n, MevOk E n0 (mev E M n)
  | 0 => fun _ _ _ _ _ _ _ _ _ _ _ _ _ h => h.elim
  | n + 1 => mStep_okM hm ho hL hM (mev_okM hm ho hL hM n)
def okSt (n0 n' nt : Nat) (sl : List (Nat × Value)) (rl : List (Nat × Row)) : Bool :=
  Nat.ble n0 n' && Nat.ble n' 1000000 && Nat.ble nt 1000000 && go1 nt sl && go2 n' rl
where
  go1 (nt : Nat) : List (Nat × Value) → Bool
    | [] => true
    | p :: l => Nat.blt p.1 nt && go1 nt l
  go2 (n' : Nat) : List (Nat × Row) → Bool
    | [] => true
    | p :: l => Nat.blt p.1 n' && go2 n' l
def atSt (n0 n' nt : Nat) (sl : List (Nat × Value)) (rl : List (Nat × Row)) (fr : Fr) (u : Option FrameMode) (h : Hp) (k : Prop) : Prop :=
  match fr, u with
  | ⟨tm, nt', []⟩, none => need (Nat.beq nt' nt) (need (okSt n0 n' nt sl rl) (mSlots tm sl (idAss n0) fun ρ => mRows h.rows ρ rl fun ρ => need (ρ.below n' && apartIn ρ rl) k))
  | _, _ => False
theorem go1_spec (nt : Nat) : ∀ l : List (Nat × Value), okSt.go1 nt l = true → ∀ p ∈ l, p.1 < nt := by
  intro l
  induction l with
  | nil => intro _ p hp; simp at hp
  | cons q l ih =>
    intro h p hp
    simp only [okSt.go1, Bool.and_eq_true] at h
    rcases List.mem_cons.1 hp with rfl | hp
    · exact Nat.le_of_ble_eq_true h.1
    · exact ih h.2 p hp
theorem go2_spec (nt : Nat) : ∀ l : List (Nat × Row), okSt.go2 nt l = true → ∀ p ∈ l, p.1 < nt := by
  intro l
  induction l with
  | nil => intro _ p hp; simp at hp
  | cons q l ih =>
    intro h p hp
    simp only [okSt.go2, Bool.and_eq_true] at h
    rcases List.mem_cons.1 hp with rfl | hp
    · exact Nat.le_of_ble_eq_true h.1
    · exact ih h.2 p hp
theorem atSt_under {k : Prop} {n' nt : Nat} {sl : List (Nat × Value)} {rl : List (Nat × Row)} {fr : Fr} {u : Option FrameMode} {h : Hp} {tm : Tr Value} {B : Base} {μ0 : Mu} {F0 : Nat → Option Row} {w0 : World} {cs0 : List Frame} {kd : CallKind} {μ : Mu} {a : Act} {cs : List Frame} {w : World}
    (ha : atSt n0 n' nt sl rl fr u h k) (h1 : ∀ z, ¬ B.hole z) (h2 : OnlyG n0 μ0) (h3 : Sub fr.tm tm) (h4 : SR B μ0 F0 w0 cs0 kd μ ⟨tm, fr.nt, fr.df⟩ u h a cs w) :
    (∃ μ' tm', Sub (mkOv sl) tm' ∧ SR B μ0 F0 w0 cs0 kd μ' ⟨tm', nt, []⟩ none ⟨mkR rl, n'⟩ a cs w) ∧ k := by
  unfold atSt at ha
  split at ha
  · rename_i tm0 nt'
    obtain ⟨g1, ha1⟩ := need_spec ha
    obtain ⟨g2, ha2⟩ := need_spec ha1
    have := Nat.eq_of_beq_eq_true g1
    subst this
    obtain ⟨ρ1, e1, i1, s1, k1⟩ := mSlots_sound _ _ _ (idAss_inj n0) ha2
    obtain ⟨ρ2, e2, i2, s2, k2⟩ := mRows_sound _ _ _ i1 k1
    obtain ⟨k3, k4⟩ := need_spec k2
    rw [Bool.and_eq_true] at k3
    refine ⟨?_, k4⟩
    simp only [okSt, Bool.and_eq_true] at g2
    have q1 := Nat.le_of_ble_eq_true g2.1.1.1.2
    have q2 := Nat.le_of_ble_eq_true g2.1.1.2
    have g3 := go1_spec _ _ g2.1.2
    have g4 := go2_spec _ _ g2.2
    refine SR.under h4 h1 h2 k3.2 (e1.trans e2) k3.1 (by unfold Tr.top; omega) q2 (fun p hp => ?_) (fun p hp => ⟨by have := g4 p hp; unfold Tr.top; omega, s2 p hp⟩)
    obtain ⟨v, hv, hr⟩ := s1 p hp
    exact ⟨g3 p hp, v, h3 _ _ hv, hr.mono (RA.ext e2)⟩
  · exact ha.elim
structure Gate (υ : Type) where
  e : Ex
  Q : υ → Prop
  sl : υ → List (Nat × Value)
  rl : υ → List (Nat × Row)
  n : Nat
def sameEx : Ex → Ex → Bool
  | .normal, .normal => true
  | .exit i, .exit j => Nat.beq i j
  | .ret, .ret => true
  | _, _ => false
theorem sameEx_spec {a b : Ex} (h : sameEx a b = true) : a = b ∧ ∀ c, a ≠ .panic c := by
  cases a <;> cases b <;> simp [sameEx] at h
  · exact ⟨rfl, fun c => by simp⟩
  · subst h; exact ⟨rfl, fun c => by simp⟩
  · exact ⟨rfl, fun c => by simp⟩
def pEx : List (Nat × Value) → Ex
  | [(t, v)] => .panic [{ v := .iface t v, recovered := false }]
  | [(t, .string s), (_, .int .i64 n)] => .panic ({ v := .iface t (.string s), recovered := false } :: reps t s n.toNat)
  | _ => .panic []
def gEx {υ : Type} (x : Gate υ) (y : υ) : Ex := match x.e with
  | .panic _ => pEx (x.sl y)
  | .normal => .normal
  | .ret => .ret
  | .exit i => .exit i
def gSl {υ : Type} (x : Gate υ) (y : υ) : List (Nat × Value) := match x.e with
  | .panic _ => []
  | _ => x.sl y
def isPan : Ex → Option (List PanicEntry)
  | .panic c => some c
  | _ => none
theorem isPan_eq {e : Ex} {c : List PanicEntry} (h : isPan e = some c) : e = .panic c := by
  cases e <;> simp [isPan] at h
  rw [h]
def payEq : List (Nat × Value) → List PanicEntry → Prop
  | [(t, .agg ⟨[.int .i64 a, .int .i64 b]⟩)], [{ v := .iface t1 (.agg ⟨[.int .i64 a1, .int .i64 b1]⟩), recovered := false, goexit := false }] => t = t1 ∧ a = a1 ∧ b = b1
  | [(t, .string s), (_, .int .i64 n)], ({ v := .iface t1 (.string s1), recovered := false, goexit := false } :: older) => t = t1 ∧ s = s1 ∧ older = reps t1 s1 n.toNat
  | _, _ => False
def kindOk (c ch : List PanicEntry) : Bool :=
  match ch with
  | { v := .iface _ (.string _), recovered := _, goexit := _ } :: _ => (match c with | [] => false | _ => true)
  | _ => (match c with | [] => true | _ => false)
def endsIn {υ : Type} (n0 nt : Nat) : List (Gate υ) → Out4 → Prop
  | [], _ => False
  | x :: l, r => match r with
    | (e, fr, u, h) => match isPan x.e, isPan e with
      | some c, some ch => bif kindOk c ch then ∃ y, x.Q y ∧ payEq (x.sl y) ch ∧ atSt n0 x.n nt [] (x.rl y) fr u h True else endsIn n0 nt l (e, fr, u, h)
      | _, _ => bif sameEx x.e e then ∃ y, x.Q y ∧ atSt n0 x.n nt (x.sl y) (x.rl y) fr u h True else endsIn n0 nt l r
def goesOn {υ : Type} (nt : Nat) : List (Gate υ) → KO → Prop
  | [], _ => True
  | [x], K => ∀ y, x.Q y → K (gEx x y, ⟨mkOv (gSl x y), nt, []⟩, none, ⟨mkR (x.rl y), x.n⟩)
  | x :: l, K => ∀ side : Bool, br side (∀ y, x.Q y → K (gEx x y, ⟨mkOv (gSl x y), nt, []⟩, none, ⟨mkR (x.rl y), x.n⟩)) (goesOn nt l K)
theorem goesOn_mem {υ : Type} {nt : Nat} {K : KO} : ∀ (l : List (Gate υ)), goesOn nt l K → ∀ x ∈ l, ∀ y, x.Q y → K (gEx x y, ⟨mkOv (gSl x y), nt, []⟩, none, ⟨mkR (x.rl y), x.n⟩) := by
  intro l
  induction l with
  | nil => intro _ x hx; simp at hx
  | cons z l ih =>
    intro h x hx
    cases l with
    | nil => simp at hx; subst hx; exact h
    | cons z2 l =>
      rcases List.mem_cons.1 hx with rfl | hx
      · exact h true
      · exact ih (h false) x hx
theorem endsIn_spec {υ : Type} {nt : Nat} : ∀ (l : List (Gate υ)) (e : Ex) (fr : Fr) (u : Option FrameMode) (h : Hp), endsIn n0 nt l (e, fr, u, h) → ∃ x ∈ l, ∃ y, x.Q y ∧ ((x.e = e ∧ (∀ c, e ≠ .panic c) ∧ atSt n0 x.n nt (x.sl y) (x.rl y) fr u h True) ∨
    (∃ c ch, x.e = .panic c ∧ e = .panic ch ∧ payEq (x.sl y) ch ∧ atSt n0 x.n nt [] (x.rl y) fr u h True)) := by
  intro l
  induction l with
  | nil => intro e fr u h hh; exact hh.elim
  | cons z l ih =>
    intro e fr u h hh
    simp only [endsIn] at hh
    split at hh
    · rename_i c ch hz he
      cases hb : kindOk c ch with
      | true =>
        rw [hb] at hh
        obtain ⟨y, h1, h2, h3⟩ := hh
        exact ⟨z, by simp, y, h1, .inr ⟨c, ch, isPan_eq hz, isPan_eq he, h2, h3⟩⟩
      | false =>
        rw [hb] at hh
        obtain ⟨x, hx, k⟩ := ih e fr u h hh
        exact ⟨x, by simp [hx], k⟩
    · cases hb : sameEx z.e e with
      | true =>
        rw [hb] at hh
        obtain ⟨s1, s2⟩ := sameEx_spec hb
        obtain ⟨y, h1, h2⟩ := hh
        exact ⟨z, by simp, y, h1, .inl ⟨s1, by rw [← s1]; exact s2, h2⟩⟩
      | false =>
        rw [hb] at hh
        obtain ⟨x, hx, k⟩ := ih e fr u h hh
        exact ⟨x, by simp [hx], k⟩
theorem vr_flat {μ μ' : Mu} {v w : Value} (hf : flat 12 v = true) (h : VR μ v w) : VR μ' v w := by
  rw [flat_eq 12 _ _ hf h]; exact flat_refl 12 _ hf
theorem pan_flat (t : Nat) (a b : Int) (μ μ' : Mu) (c' : List PanicEntry) (hp : PRs μ [{ v := .iface t (.agg ⟨[.int .i64 a, .int .i64 b]⟩), recovered := false }] c') : PRs μ' [{ v := .iface t (.agg ⟨[.int .i64 a, .int .i64 b]⟩), recovered := false }] c' := by
  match c', hp with
  | [p], hp => exact ⟨⟨vr_flat rfl hp.1.1, hp.1.2.1, hp.1.2.2⟩, hp.2⟩
theorem reps_flat (t : Nat) (s : ByteArray) {μ μ' : Mu} : ∀ (n : Nat) (c' : List PanicEntry), PRs μ (reps t s n) c' → PRs μ' (reps t s n) c'
  | 0, c', hp => by cases c' with
    | nil => exact hp
    | cons => exact hp.elim
  | n + 1, c', hp => by
    cases c' with
    | nil => exact hp.elim
    | cons p c' => exact ⟨⟨vr_flat rfl hp.1.1, hp.1.2.1, hp.1.2.2⟩, reps_flat t s n c' hp.2⟩
theorem pan_str (t : Nat) (s : ByteArray) (n : Nat) (μ μ' : Mu) (c' : List PanicEntry) (hp : PRs μ ({ v := .iface t (.string s), recovered := false } :: reps t s n) c') : PRs μ' ({ v := .iface t (.string s), recovered := false } :: reps t s n) c' := by
  cases c' with
  | nil => exact hp.elim
  | cons p c' => exact ⟨⟨vr_flat rfl hp.1.1, hp.1.2.1, hp.1.2.2⟩, reps_flat t s n c' hp.2⟩
theorem payEq_spec {l : List (Nat × Value)} {ch : List PanicEntry} (h : payEq l ch) : pEx l = .panic ch ∧ ∀ (μ μ' : Mu) (c' : List PanicEntry), PRs μ ch c' → PRs μ' ch c' := by
  unfold payEq at h
  split at h
  · obtain ⟨rfl, rfl, rfl⟩ := h
    refine ⟨rfl, fun μ μ' c' hp => ?_⟩
    match c', hp with
    | [p], hp => exact ⟨⟨vr_flat rfl hp.1.1, hp.1.2.1, hp.1.2.2⟩, hp.2⟩
  · obtain ⟨rfl, rfl, rfl⟩ := h
    exact ⟨rfl, fun μ μ' c' hp => pan_str _ _ _ _ _ _ hp⟩
  · exact h.elim
theorem ER_any {μ μ' : Mu} {e : Ex} {e' : Exit} (h : ER μ e e') (hn : ∀ c, e ≠ .panic c) : ER μ' e e' := by
  cases e <;> cases e' <;> first | exact h | exact absurd rfl (hn _)
theorem endsIn_post {υ : Type} {nt : Nat} {l : List (Gate υ)} {K : KO} (hK : goesOn nt l K) {B : Base} {μ0 : Mu} {F0 : Nat → Option Row} {w0 : World} {cs0 : List Frame} {kd : CallKind} (h1 : ∀ z, ¬ B.hole z) (h2 : OnlyG n0 μ0)
    {e' : Ex} {fr' : Fr} {u' : Option FrameMode} {h' : Hp} {ov : Tr Value} {e : Exit} {a' : Act} {cs' : List Frame} {w' : World} (hne : endsIn n0 nt l (e', ⟨ov, fr'.nt, fr'.df⟩, u', h')) (k2 : Sub ov fr'.tm) (k3 : Post B μ0 F0 w0 cs0 kd (e', fr', u', h') e a' cs' w') :
    PostK K B μ0 F0 w0 cs0 kd e a' cs' w' := by
  obtain ⟨x, hx, y, hy, hh⟩ := endsIn_spec _ _ _ _ _ hne
  obtain ⟨μ', hs, her, _⟩ := k3
  have hg := goesOn_mem _ hK x hx y hy
  rcases hh with ⟨rfl, hp, hat⟩ | ⟨c, ch, hxe, rfl, hpay, hat⟩
  · obtain ⟨⟨μ2, tm2, q1, q2⟩, _⟩ := atSt_under hat h1 h2 k2 hs
    have e1 : gEx x y = x.e := by
      unfold gEx
      split <;> first | exact absurd (by assumption) (hp _) | (symm; assumption)
    have e2 : gSl x y = x.sl y := by
      unfold gSl
      split
      · exact absurd (by assumption) (hp _)
      · rfl
    rw [e1, e2] at hg
    exact ⟨(x.e, ⟨tm2, nt, []⟩, none, ⟨mkR (x.rl y), x.n⟩), ⟨mkOv (x.sl y), q1, hg⟩, μ2, q2, ER_any her hp, fun h => by simp at h⟩
  · obtain ⟨⟨μ2, tm2, q1, q2⟩, _⟩ := atSt_under hat h1 h2 k2 hs
    obtain ⟨p1, p2⟩ := payEq_spec hpay
    have e1 : gEx x y = .panic ch := by unfold gEx; rw [hxe]; exact p1
    have e2 : gSl x y = [] := by unfold gSl; rw [hxe]
    rw [e1, e2] at hg
    refine ⟨(.panic ch, ⟨tm2, nt, []⟩, none, ⟨mkR (x.rl y), x.n⟩), ⟨mkOv [], q1, hg⟩, μ2, q2, ?_, fun h => by simp at h⟩
    cases e with
    | panic c' => exact p2 _ _ _ her
    | _ => exact her.elim
theorem piece_okM {υ : Type} {nt : Nat} {c : Code} {fr : Fr} {h : Hp} {ws : List (Gate υ)} {K : KO} (hc : OkM E n0 false c fr none h (endsIn n0 nt ws)) (hK : goesOn nt ws K) : OkM E n0 false c fr none h K := by
  intro B μ0 F0 w0 cs0 kd μ a cs w tm h1 h2 h3 h4
  refine wi_mono (hc B μ0 F0 w0 cs0 kd μ a cs w tm h1 h2 h3 h4) ?_
  rintro e a' cs' w' ⟨⟨e', fr', u', h'⟩, ⟨ov, k1, k2⟩, hp⟩
  exact endsIn_post hK h1 h2 k2 k1 hp
theorem loop_okM {ι υ : Type} {body : Code} {nt n' : Nat} (sl : ι → List (Nat × Value)) (rl : ι → List (Nat × Row)) (Inv : ι → Prop) (m : ι → Nat) {ws : List (Gate υ)} {K : KO} (hK : goesOn nt ws K)
    (hbody : ∀ i, Inv i → OkM E n0 false body ⟨mkOv (sl i), nt, []⟩ none ⟨mkR (rl i), n'⟩ (fun x => match x with
      | (.normal, fr', u', h') => ∃ j, Inv j ∧ m j < m i ∧ atSt n0 n' nt (sl j) (rl j) fr' u' h' True
      | r => endsIn n0 nt ws r)) :
    ∀ (k : Nat) (i : ι), m i ≤ k → Inv i → ∀ it, OkM E n0 it (if it then body else .loop body) ⟨mkOv (sl i), nt, []⟩ none ⟨mkR (rl i), n'⟩ K := by
  intro k
  induction k with
  | zero =>
    intro i hk hi it B μ0 F0 w0 cs0 kd μ a cs w tm h1 h2 h3 h4
    have hit : itemOf it (if it then body else .loop body) = .code (.loop body) ∨ itemOf it (if it then body else .loop body) = .inLoop body := by cases it <;> simp [itemOf]
    refine wi_round hit ?_
    refine OkM.then (hbody i hi) h1 h2 h3 h4 (fun fr' u' h' ov μ' a' cs' w' k1 k2 k3 => ?_) (fun e' fr' u' h' ov e a' cs' w' hne k1 k2 k3 => ?_)
    · obtain ⟨j, _, hj, _⟩ := k1; omega
    · refine endsIn_post hK h1 h2 ?_ k2 k3
      cases e' <;> first | exact absurd rfl hne | exact k1
  | succ k ih =>
    intro i hk hi it B μ0 F0 w0 cs0 kd μ a cs w tm h1 h2 h3 h4
    have hit : itemOf it (if it then body else .loop body) = .code (.loop body) ∨ itemOf it (if it then body else .loop body) = .inLoop body := by cases it <;> simp [itemOf]
    refine wi_round hit ?_
    refine OkM.then (hbody i hi) h1 h2 h3 h4 (fun fr' u' h' ov μ' a' cs' w' k1 k2 k3 => ?_) (fun e' fr' u' h' ov e a' cs' w' hne k1 k2 k3 => ?_)
    · obtain ⟨j, hj1, hj2, hat⟩ := k1
      obtain ⟨⟨μ2, tm2, q1, q2⟩, _⟩ := atSt_under hat h1 h2 k2 k3
      exact ih j (by omega) hj1 true B μ0 F0 w0 cs0 kd μ2 a' cs' w' tm2 h1 h2 q1 q2
    · refine endsIn_post hK h1 h2 ?_ k2 k3
      cases e' <;> first | exact absurd rfl hne | exact k1
def specOf {ι υ : Type} (n0 n' nt : Nat) (Pre : ι → Prop) (sl : ι → List (Nat × Value)) (rl : ι → List (Nat × Row)) (ws : ι → List (Gate υ)) : Spec := fun fr u h K =>
  ∃ g, Pre g ∧ atSt n0 n' nt (sl g) (rl g) fr u h (goesOn nt (ws g) K)
theorem specOf_okM {ι υ : Type} {n' nt : Nat} {Pre : ι → Prop} {sl : ι → List (Nat × Value)} {rl : ι → List (Nat × Row)} {ws : ι → List (Gate υ)} {c : Code}
    (hc : ∀ i K, Pre i → goesOn nt (ws i) K → OkM E n0 false c ⟨mkOv (sl i), nt, []⟩ none ⟨mkR (rl i), n'⟩ K) {fr : Fr} {u : Option FrameMode} {h : Hp} {K : KO} (hs : specOf n0 n' nt Pre sl rl ws fr u h K) : OkM E n0 false c fr u h K := by
  obtain ⟨i, h1, h2⟩ := hs
  intro B μ0 F0 w0 cs0 kd μ a cs w tm g1 g2 g3 g4
  obtain ⟨⟨μ', tm', q1, q2⟩, h3⟩ := atSt_under h2 g1 g2 g3 g4
  exact hc i K h1 h3 B μ0 F0 w0 cs0 kd μ' a cs w tm' g1 g2 q1 q2
end
end
end Go.Sy
namespace Go.Sy
noncomputable section
open Go.Ev Go.RowKit
def nums : Nat → List Row → List (Nat × Row)
  | _, [] => []
  | i, r :: l => (i, r) :: nums (i + 1) l
def Con (P : Program) (f : FuncId) (args : List Value) (rows : List Row) (v : Value) (rows' : List Row) : Prop :=
  ∀ (B : Base) (μ : Mu) (w : World) (args' : Array Value), (∀ z, ¬ B.hole z) → OnlyG rows.length μ → WR B μ (mkR (nums 0 rows)).find rows.length w → VRs μ args args'.toList → okFn P f = true →
    Calls P f args' w fun e w' => ∃ μ', Le μ μ' ∧ WR B μ' (mkR (nums 0 rows')).find rows'.length w' ∧ Keep μ (mkR (nums 0 rows)).find w μ' (mkR (nums 0 rows')).find w' ∧ EnR μ' (.ret v) e
section
variable (E : Env)
def mcall (M : FuncId → List Nat → Option Spec) (n : Nat) : SCall := fun f args h k =>
  match E.P.funcs[f]? with
  | some fn =>
    match fn.body with
    | some c =>
      need (Nat.ble args.length fn.ntmps && Nat.ble fn.ntmps 1000000) <|
        mev E M n f [] false c ⟨ofL args 0 .leaf, fn.ntmps, []⟩ none h fun x =>
          match x with
          | (.normal, ⟨tm, _, []⟩, none, h') => sResults E h'.rows tm fn fun v => k (.ret v, h')
          | (.ret, ⟨tm, _, []⟩, none, h') => sResults E h'.rows tm fn fun v => k (.ret v, h')
          | (.panic ch, ⟨_, _, []⟩, none, h') => k (.pan ch, h')
          | _ => False
    | none => False
  | none => False
def retIs (n0 : Nat) (v : Value) (rows' : List Row) (r : Ev.End × Hp) : Prop :=
  match r with
  | (.ret v1, h1) => need (Nat.ble n0 rows'.length && Nat.ble rows'.length 1000000) (mV 12 (idAss n0) v v1 fun ρ => mRows h1.rows ρ (nums 0 rows') fun ρ => need (ρ.below rows'.length && apartIn ρ (nums 0 rows')) True)
  | _ => False
variable {E}
theorem mcall_sound (hm : E.P.follows .mixedOrders = true) (ho : CallsOk E.P (oOf E)) (hL : LOk E) {n0 : Nat} {M : FuncId → List Nat → Option Spec} (hM : LMOk E n0 M) {n : Nat} {f : FuncId} {args : List Value} {h : Hp} {k : Ev.End × Hp → Prop} (hc : mcall E M n f args h k)
    {B : Base} {μ : Mu} {w : World} {args' : Array Value} (h1 : ∀ z, ¬ B.hole z) (h2 : OnlyG n0 μ) (hw : WR B μ h.rows.find h.next w) (hargs : VRs μ args args'.toList) :
    Calls E.P f args' w fun e w' => ∃ x h' μ', k (x, h') ∧ Le μ μ' ∧ WR B μ' h'.rows.find h'.next w' ∧ Keep μ h.rows.find w μ' h'.rows.find w' ∧ EnR μ' x e := by
  unfold mcall at hc
  split at hc
  · rename_i fn hf
    split at hc
    · rename_i c hb
      obtain ⟨hcond, hc⟩ := need_spec hc
      simp only [Bool.and_eq_true] at hcond
      have c1 := Nat.le_of_ble_eq_true hcond.1
      have c2 := Nat.le_of_ble_eq_true hcond.2
      intro cs
      let b : Frame := { (default : Frame) with fn := f, kind := .normal }
      have henter : Frame.enter E.P f args' .normal =
          b.at { tmps := args' ++ Array.replicate (fn.ntmps - args'.size) undef, defers := [] } [.code c] := by
        simp [Frame.enter, Frame.at, hf, hb, b]
      have hsr : SR B μ h.rows.find w cs .normal μ ⟨ofL args 0 .leaf, fn.ntmps, []⟩ none h { tmps := args' ++ Array.replicate (fn.ntmps - args'.size) undef, defers := [] } cs w :=
        ⟨frame0 hargs c1 c2, hw, Keep.refl _ _ _, Le.refl _, rfl, fun h => by simp at h⟩
      obtain ⟨e, a', cs', w', ⟨x, ⟨ov, k1, k2⟩, μ1, hs, her, hkd⟩, harr⟩ := mev_okM hm ho hL hM n f fn c hf hb [] false c _ _ _ _ rfl hc B μ h.rows.find w cs .normal μ _ _ w _ h1 h2 (Sub.refl _) hsr b [] rfl
      simp only [itemOf] at harr
      rw [← henter] at harr
      obtain ⟨e', ⟨tm', nt', df'⟩, u', h'⟩ := x
      simp only at k1 k2 hs her hkd
      have last : ∀ (todo : List Item), df' = [] → u' = none → sResults E h'.rows ov fn (fun v => k (.ret v, h')) → Steps E.P (lone (Frame.enter E.P f args' .normal) cs w) (lone { b.at a' todo with mode := .returning } cs w') →
          ∃ e w'' fr', (∃ x h' μ', k (x, h') ∧ Le μ μ' ∧ WR B μ' h'.rows.find h'.next w'' ∧ Keep μ h.rows.find w μ' h'.rows.find w'' ∧ EnR μ' x e) ∧ Comes E.P (lone (Frame.enter E.P f args' .normal) cs w) (lone fr' cs w'') e ∧ fr'.fn = f ∧ fr'.leaving E.P w'' e := by
        intro todo hdf hu hres hst
        subst hdf
        subst hu
        obtain ⟨v, g1, g2⟩ := sResults_sound E k1 hres
        have hd : a'.defers = [] := List.eq_nil_of_length_eq_zero (by have := hs.ar.dlen; simpa using this.symm)
        have hlv := leaves_sound (P := E.P) (rec := ev E.P noO 0) (ev_ok hm noO_ok 0) (tmps := a'.tmps) (fn := fn) (tm := tm') (r := .ret v) (h' := h') (μ0 := μ) (F0 := h.rows.find) (w0 := w) [] a'.defers .returning .returning h' μ1 w'
          (by simp only [leaves, g1]) hs.wr hs.kp hs.le hs.ar.get trivial (by rw [hd]) (fun i d d' h1 => by simp at h1)
        obtain ⟨e', w'', fr', hR, hsteps, hfn, hl⟩ := leaves_steps a'.defers .returning w' { b.at a' todo with mode := .returning } cs rfl rfl rfl hf rfl hlv
        obtain ⟨μ2, r1, r2, r3, r4⟩ := hR
        exact ⟨e', w'', fr', ⟨.ret v, h', μ2, g2, r1, r2, r3, r4⟩, Comes.of_steps hst hsteps, hfn, hl⟩
      have hcs : ∀ (_ : u' = none), cs' = cs := by intro hu; have := hs.cr; rw [hu] at this; exact this
      cases e' with
      | normal =>
        cases e <;> first | exact her.elim | skip
        cases df' with
        | cons => simp only at k2
        | nil =>
          cases u' with
          | some => simp only at k2
          | none =>
            have := hcs rfl
            subst this
            exact last [] rfl rfl k2 (Steps.trans harr (.one step_end))
      | ret =>
        cases e <;> first | exact her.elim | skip
        cases df' with
        | cons => simp only at k2
        | nil =>
          cases u' with
          | some => simp only at k2
          | none =>
            have := hcs rfl
            subst this
            obtain ⟨todo, hst⟩ := harr
            exact last todo rfl rfl k2 hst
      | exit j => simp only at k2
      | panic ch =>
        cases e <;> first | exact her.elim | skip
        cases df' with
        | cons => simp only at k2
        | nil =>
          cases u' with
          | some => simp only at k2
          | none =>
            have := hcs rfl
            subst this
            obtain ⟨todo, hst⟩ := harr
            have hd : a'.defers = [] := List.eq_nil_of_length_eq_zero (by have := hs.ar.dlen; simpa using this.symm)
            have hlv := leaves_sound (P := E.P) (rec := ev E.P noO 0) (ev_ok hm noO_ok 0) (tmps := a'.tmps) (fn := fn) (tm := tm') (r := .pan ch) (h' := h') (μ0 := μ) (F0 := h.rows.find) (w0 := w) [] a'.defers (.panicking ch) (.panicking _) h' μ1 w'
              (by simp only [leaves]) hs.wr hs.kp hs.le hs.ar.get her (by rw [hd]) (fun i d d' h1 => by simp at h1)
            obtain ⟨e', w'', fr', hR, hsteps, hfn, hl⟩ := leaves_steps a'.defers _ w' { b.at a' todo with mode := .panicking _ } cs' rfl rfl rfl hf rfl hlv
            obtain ⟨μ2, r1, r2, r3, r4⟩ := hR
            exact ⟨e', w'', fr', ⟨.pan ch, h', μ2, k2, r1, r2, r3, r4⟩, Comes.of_steps hst hsteps, hfn, hl⟩
    · exact hc.elim
  · exact hc.elim
theorem nums_lt : ∀ (l : List Row) (i : Nat), ∀ p ∈ nums i l, p.1 < i + l.length := by
  intro l
  induction l with
  | nil => intro i p hp; simp [nums] at hp
  | cons r l ih =>
    intro i p hp
    simp only [nums] at hp
    rcases List.mem_cons.1 hp with rfl | hp
    · simp
    · have := ih _ _ hp; simp only [List.length_cons]; omega
theorem con_of (hm : E.P.follows .mixedOrders = true) (ho : CallsOk E.P (oOf E)) (hL : LOk E) {M : FuncId → List Nat → Option Spec} {f : FuncId} {args : List Value} {rows rows' : List Row} {v : Value} (hM : LMOk E rows.length M) {n : Nat}
    (hc : mcall E M n f args ⟨mkR (nums 0 rows), rows.length⟩ (retIs rows.length v rows')) : Con E.P f args rows v rows' := by
  intro B μ w args' h1 h2 hw hargs hok
  refine (mcall_sound hm ho hL hM hc h1 h2 hw hargs).mono ?_
  rintro e w' ⟨x1, h', μ', hk, g1, g2, g3, g4⟩
  cases x1 with
  | pan ch => exact hk.elim
  | ret v1 =>
  simp only [retIs] at hk
  obtain ⟨k1, hk⟩ := need_spec hk
  simp only [Bool.and_eq_true] at k1
  have k3 := Nat.le_of_ble_eq_true k1.2
  obtain ⟨ρ1, e1, i1, r1, hk⟩ := mV_sound _ _ _ _ _ (idAss_inj _) hk
  obtain ⟨ρ2, e2, i2, r2, hk⟩ := mRows_sound _ _ _ i1 hk
  obtain ⟨hb, _⟩ := need_spec hk
  rw [Bool.and_eq_true] at hb
  have hn9 : rows'.length ≤ Tr.top := by unfold Tr.top; omega
  obtain ⟨q1, q2⟩ := WR.under (n' := rows'.length) g2 h1 hb.2 hb.1 hn9 (rl := nums 0 rows') (fun p hp => ⟨by have := nums_lt _ _ _ hp; unfold Tr.top; omega, r2 p hp⟩)
  refine ⟨_, muOf_le _ h2 (e1.trans e2) hb.1 hn9 g1, q1, ⟨g3.os, g3.tape, g3.output, g3.size, g3.block, fun b hb => g3.owns b (q2 b hb), fun z i b o s hm => g3.gnew z i b o s ((muOf_g _ hb.1 hn9 z i).symm.trans hm)⟩, ?_⟩
  cases e with
  | returned v' => exact (r1.mono (RA.ext e2)).here (muOf_here _) (muOf_gle _ hb.1 hn9) _ g4
  | panicked c => exact g4.elim
  | outgrown => exact g4.elim
end
end
end Go.Sy
