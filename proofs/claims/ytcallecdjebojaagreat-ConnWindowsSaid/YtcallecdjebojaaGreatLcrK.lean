/- A closed state held against another one, by a Bool. -/
import Derived.Test.YtcallecdjebojaaGreatSz9
import Derived.Test.YtcallecdjebojaaGreatRows
import Derived.Test.YtcallecdjebojaaGreatLgl
set_option maxRecDepth 20000
set_option linter.unusedSimpArgs false
set_option linter.unusedVariables false
namespace Go.Proofs.YtcallecdjebojaaGreat.ck
noncomputable section
open Go Go.Ev Go.Sy Go.RowKit
def eqB : List UInt8 → List UInt8 → Bool
  | [], [] => true
  | a :: l, b :: m => Nat.beq a.toNat b.toNat && eqB l m
  | _, _ => false
def eqI : Int → Int → Bool
  | .ofNat a, .ofNat b => Nat.beq a b
  | .negSucc a, .negSucc b => Nat.beq a b
  | _, _ => false
def eqFl : Value → Value → Bool
  | .int t n, .int t' m => decide (t = t') && eqI n m
  | .bool a, .bool b => a == b
  | .string ⟨⟨a⟩⟩, .string ⟨⟨b⟩⟩ => eqB a b
  | _, _ => false
def eqFs : List Value → List Value → Bool
  | [], [] => true
  | a :: l, b :: m => eqFl a b && eqFs l m
  | _, _ => false
def asOneB (ρ : Ass) (r' : Nat) (r : Option Nat) (k : Ass → Bool) : Bool :=
  match ρ.get r', r with
  | some (some q), some r => Nat.beq q r && k ρ
  | some none, none => k ρ
  | none, some r => k ((r', some r) :: ρ)
  | none, none => k ((r', none) :: ρ)
  | _, _ => false
def mGoB (f : Ass → Value → Value → (Ass → Bool) → Bool) : List Value → List Value → Ass → (Ass → Bool) → Bool
  | [], [], ρ, k => k ρ
  | c :: x, a :: y, ρ, k => f ρ c a fun ρ => mGoB f x y ρ k
  | _, _, _, _ => false
def mVb : Nat → Ass → Value → Value → (Ass → Bool) → Bool
  | 0, _, _, _, _ => false
  | d + 1, ρ, c, a, k =>
    match c, a with
    | .int t n, .int t' m => decide (t = t') && (eqI n m && k ρ)
    | .bool b, .bool b' => (b == b') && k ρ
    | .string ⟨⟨s⟩⟩, .string ⟨⟨s'⟩⟩ => eqB s s' && k ρ
    | .float t n, .float t' m => decide (t = t') && (Nat.beq n m && k ρ)
    | .pointer none, .pointer none => k ρ
    | .pointer (some ⟨r', o', none⟩), .pointer (some ⟨r, o, none⟩) => Nat.beq o' o && asOneB ρ r' (some r) k
    | .slice none 0 0, .slice none 0 0 => k ρ
    | .slice (some ⟨r', o', none⟩) n' e', .slice (some ⟨r, o, none⟩) n e => Nat.beq e' e && (Nat.beq o' o && (Nat.beq n' n && asOneB ρ r' (some r) k))
    | .agg ⟨x⟩, .agg ⟨y⟩ => !(Nat.ble 100 x.length) && mGoB (mVb d) x y ρ k
    | .tuple ⟨x⟩, .tuple ⟨y⟩ => mGoB (mVb d) x y ρ k
    | .nilFunc, .nilFunc => k ρ
    | .nilIface, .nilIface => k ρ
    | .map none, .map none => k ρ
    | .map (some r'), .map (some r) => asOneB ρ r' (some r) k
    | .iface t' x, .iface t y => decide (t' = t) && mVb d ρ x y k
    | _, _ => false
def mRowB (rows : Tr Row) (ρ : Ass) (r' : Nat) (row : Row) (k : Ass → Bool) : Bool :=
  match ρ.get r', row with
  | some (some r), ⟨cells', ro', .cells true⟩ =>
    (match rows.find r with
    | some ⟨cells, ro, .cells _⟩ => decide (ro' = ro) && (eqFs cells' cells && k ρ)
    | _ => false)
  | some (some r), ⟨cells', ro', .cells false⟩ =>
    (match rows.find r with
    | some ⟨cells, ro, .cells false⟩ => decide (ro' = ro) && mGoB (mVb 12) cells' cells ρ k
    | _ => false)
  | some (some r), ⟨cells', ro', .map⟩ =>
    (match rows.find r with
    | some ⟨cells, ro, .map⟩ => decide (ro' = ro) && mGoB (mVb 12) cells' cells ρ k
    | _ => false)
  | _, _ => false
def mRowsB (rows : Tr Row) (ρ : Ass) : List (Nat × Row) → (Ass → Bool) → Bool
  | [], k => k ρ
  | p :: l, k => mRowB rows ρ p.1 p.2 fun ρ => mRowsB rows ρ l k
theorem eqB_eq : ∀ l m : List UInt8, eqB l m = true → l = m
  | [], [], _ => rfl
  | [], _ :: _, h => by simp [eqB] at h
  | _ :: _, [], h => by simp [eqB] at h
  | a :: l, b :: m, h => by
    simp only [eqB, Bool.and_eq_true] at h
    rw [eqB_eq l m h.2, UInt8.toNat_inj.1 (Nat.eq_of_beq_eq_true h.1)]
theorem eqI_eq {n m : Int} (h : eqI n m = true) : n = m := by
  unfold eqI at h
  split at h
  · rw [Nat.eq_of_beq_eq_true h]
  · rw [Nat.eq_of_beq_eq_true h]
  · simp at h
theorem eqFl_eq {a b : Value} (h : eqFl a b = true) : a = b ∧ noAddr 12 a = true := by
  unfold eqFl at h
  split at h
  · simp only [Bool.and_eq_true, decide_eq_true_eq] at h
    obtain ⟨rfl, h2⟩ := h
    rw [eqI_eq h2]; exact ⟨rfl, rfl⟩
  · rw [eq_of_beq h]; exact ⟨rfl, rfl⟩
  · rw [eqB_eq _ _ h]; exact ⟨rfl, rfl⟩
  · simp at h
theorem eqFs_eq : ∀ l m : List Value, eqFs l m = true → l = m ∧ Plain l
  | [], [], _ => ⟨rfl, fun v hv => by simp at hv⟩
  | [], _ :: _, h => by simp [eqFs] at h
  | _ :: _, [], h => by simp [eqFs] at h
  | a :: l, b :: m, h => by
    simp only [eqFs, Bool.and_eq_true] at h
    obtain ⟨rfl, h1⟩ := eqFl_eq h.1
    obtain ⟨rfl, h2⟩ := eqFs_eq l m h.2
    exact ⟨rfl, fun v hv => by rcases List.mem_cons.1 hv with rfl | hv; exact h1; exact h2 v hv⟩
theorem asOneB_ok {ρ : Ass} {r' : Nat} {r : Option Nat} {kb : Ass → Bool} {kp : Ass → Prop} (hk : ∀ ρ, kb ρ = true → kp ρ) (h : asOneB ρ r' r kb = true) : asOne ρ r' r kp := by
  unfold asOneB at h
  unfold asOne
  split at h
  · simp only [Bool.and_eq_true] at h
    rename_i q r0 hg
    simp only [hg, need, h.1, cond_true]; exact hk _ h.2
  · rename_i hg; simp only [hg]; exact hk _ h
  · rename_i hg; simp only [hg]; exact hk _ h
  · rename_i hg; simp only [hg]; exact hk _ h
  · simp at h
theorem mGoB_ok {f : Ass → Value → Value → (Ass → Bool) → Bool} {g : Ass → Value → Value → (Ass → Prop) → Prop}
    (hf : ∀ ρ c a kb kp, (∀ ρ, kb ρ = true → kp ρ) → f ρ c a kb = true → g ρ c a kp) : ∀ (x y : List Value) (ρ : Ass) (kb : Ass → Bool) (kp : Ass → Prop), (∀ ρ, kb ρ = true → kp ρ) → mGoB f x y ρ kb = true → mGo g x y ρ kp
  | [], [], ρ, kb, kp, hk, h => hk _ h
  | [], _ :: _, ρ, kb, kp, hk, h => by simp [mGoB] at h
  | _ :: _, [], ρ, kb, kp, hk, h => by simp [mGoB] at h
  | c :: x, a :: y, ρ, kb, kp, hk, h => hf _ _ _ _ _ (fun ρ h => mGoB_ok hf x y ρ kb kp hk h) h
theorem mVb_ok : ∀ (d : Nat) (ρ : Ass) (c a : Value) (kb : Ass → Bool) (kp : Ass → Prop), (∀ ρ, kb ρ = true → kp ρ) → mVb d ρ c a kb = true → mV d ρ c a kp := by
  intro d
  induction d with
  | zero => intro ρ c a kb kp _ h; simp [mVb] at h
  | succ d ih =>
    intro ρ c a kb kp hk h
    unfold mVb at h
    split at h
    · simp only [Bool.and_eq_true] at h
      obtain ⟨h1, h2, h3⟩ := h
      simp only [mV, need, h1, cond_true]
      exact ⟨eqI_eq h2, hk _ h3⟩
    · simp only [Bool.and_eq_true] at h
      exact ⟨eq_of_beq h.1, hk _ h.2⟩
    · simp only [Bool.and_eq_true] at h
      exact ⟨by rw [eqB_eq _ _ h.1], hk _ h.2⟩
    · simp only [Bool.and_eq_true] at h
      obtain ⟨h1, h2, h3⟩ := h
      simp only [mV, need, h1, cond_true]
      exact ⟨Nat.eq_of_beq_eq_true h2, hk _ h3⟩
    · exact hk _ h
    · simp only [Bool.and_eq_true] at h
      rename_i r' o' r o
      have : asOne ρ r' (some r) (fun ρ => o' = o ∧ kp ρ) := asOneB_ok (kb := kb) (fun ρ h2 => ⟨Nat.eq_of_beq_eq_true h.1, hk _ h2⟩) h.2
      exact this
    · exact hk _ h
    · simp only [Bool.and_eq_true] at h
      obtain ⟨h1, h2, h3, h4⟩ := h
      simp only [mV, need, h1, cond_true]
      exact asOneB_ok (kb := kb) (fun ρ h5 => ⟨Nat.eq_of_beq_eq_true h2, Nat.eq_of_beq_eq_true h3, hk _ h5⟩) h4
    · simp only [Bool.and_eq_true, Bool.not_eq_true'] at h
      simp only [mV, h.1, cond_false]
      exact mGoB_ok (fun ρ c a kb kp => ih ρ c a kb kp) _ _ _ _ _ hk h.2
    · exact mGoB_ok (fun ρ c a kb kp => ih ρ c a kb kp) _ _ _ _ _ hk h
    · exact hk _ h
    · exact hk _ h
    · exact hk _ h
    · exact asOneB_ok (kb := kb) hk h
    · simp only [Bool.and_eq_true] at h
      simp only [mV, need, h.1, cond_true]
      exact ih _ _ _ _ _ hk h.2
    · simp at h
theorem mRowB_ok {rows : Tr Row} {ρ : Ass} {r' : Nat} {row : Row} {kb : Ass → Bool} {kp : Ass → Prop} (hk : ∀ ρ, kb ρ = true → kp ρ) (h : mRowB rows ρ r' row kb = true) : mRow rows ρ r' row kp := by
  unfold mRowB at h
  split at h
  · rename_i r cells' ro' hg
    split at h
    · rename_i cells ro s hr
      simp only [Bool.and_eq_true] at h
      obtain ⟨h1, h2, h3⟩ := h
      obtain ⟨e1, e2⟩ := eqFs_eq _ _ h2
      simp only [mRow, hg, hr, need, h1, cond_true]
      exact ⟨e1, e2, hk _ h3⟩
    · simp at h
  · rename_i r cells' ro' hg
    split at h
    · rename_i cells ro hr
      simp only [Bool.and_eq_true] at h
      simp only [mRow, hg, hr, need, h.1, cond_true]
      exact mGoB_ok (fun ρ c a kb kp => mVb_ok 12 ρ c a kb kp) _ _ _ _ _ hk h.2
    · simp at h
  · rename_i r cells' ro' hg
    split at h
    · rename_i cells ro hr
      simp only [Bool.and_eq_true] at h
      simp only [mRow, hg, hr, need, h.1, cond_true]
      exact mGoB_ok (fun ρ c a kb kp => mVb_ok 12 ρ c a kb kp) _ _ _ _ _ hk h.2
    · simp at h
  · simp at h
theorem mRowsB_ok {rows : Tr Row} : ∀ (l : List (Nat × Row)) (ρ : Ass) (kb : Ass → Bool) (kp : Ass → Prop), (∀ ρ, kb ρ = true → kp ρ) → mRowsB rows ρ l kb = true → mRows rows ρ l kp
  | [], ρ, kb, kp, hk, h => hk _ h
  | p :: l, ρ, kb, kp, hk, h => mRowB_ok (kb := fun ρ => mRowsB rows ρ l kb) (fun ρ h2 => mRowsB_ok l ρ kb kp hk h2) h
end
end Go.Proofs.YtcallecdjebojaaGreat.ck
