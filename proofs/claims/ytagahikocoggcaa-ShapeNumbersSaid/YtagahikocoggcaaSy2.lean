/- An evaluator of the model's code, sound for every world: part 8. -/
import Derived.Test.YtagahikocoggcaaSy1
/-
  Conditions, third part: where the condition of an operation holds, the evaluator goes on.
-/
namespace Go.Sy
open Go.Ev Go.RowKit

theorem need_spec {b : Bool} {p : Prop} (h : need b p) : b = true ∧ p := by
  unfold need at h; cases b <;> simp at h; exact ⟨rfl, h⟩
theorem br_spec {b : Bool} {x y : Prop} (h : br b x y) : (b = true ∧ x) ∨ (b = false ∧ y) := by
  unfold br at h; cases b
  · exact .inr ⟨rfl, h⟩
  · exact .inl ⟨rfl, h⟩
theorem br_intro {b : Bool} {x y : Prop} (h : b = true → x) (k : b = false → y) : br b x y := by
  unfold br; cases b
  · exact k rfl
  · exact h rfl
theorem need_intro {b : Bool} {p : Prop} (h : b = true) (k : p) : need b p := by subst h; exact k

theorem self_veq : ∀ (n : Nat) (v : Value), self n v = true → veq n v v = true := by
  have all : ∀ (n : Nat) (ih : ∀ v, self n v = true → veq n v v = true) (x : List Value), x.all (self n) = true → (Nat.beq x.length x.length && (x.zip x).all fun p => veq n p.1 p.2) = true := by
    intro n ih x h
    simp only [Bool.and_eq_true]
    refine ⟨Nat.beq_refl _, ?_⟩
    rw [List.all_eq_true] at h ⊢
    rintro ⟨a, b⟩ hp
    have hab : a = b ∧ a ∈ x := by
      clear h
      induction x with
      | nil => simp at hp
      | cons c r ih2 =>
        simp only [List.zip_cons_cons, List.mem_cons, Prod.mk.injEq] at hp
        rcases hp with ⟨rfl, rfl⟩ | hp
        · exact ⟨rfl, by simp⟩
        · obtain ⟨e, m⟩ := ih2 hp; exact ⟨e, by simp [m]⟩
    obtain ⟨rfl, hm⟩ := hab
    exact ih a (h a hm)
  intro n
  induction n with
  | zero => intro v h; simp [self] at h
  | succ n ih =>
    intro v h
    unfold self at h
    split at h <;> first | (simp at h; done) | skip
    all_goals first
      | (simp [veq]; done)
      | skip
    · rename_i e; cases e; unfold veq; exact all _ ih _ h
    · rename_i e; cases e; unfold veq; exact all _ ih _ h
    · rename_i e; cases e; unfold veq
      simp only [Bool.and_eq_true] at h
      have h1 := all _ ih _ h.1
      have h2 := all _ ih _ h.2
      rw [h1, h2]; simp

section
variable (E : Env)

theorem symCells_sound (l : List Value) : ∀ (zs : List Value) (i : Nat) (k : List Value → Prop), symCells l i zs k → ∃ vs, (l.drop i).take zs.length = vs ∧ vs.length = zs.length ∧ k vs := by
  intro zs
  induction zs with
  | nil => intro i k h; exact ⟨[], by simp, rfl, h⟩
  | cons z r ih =>
    intro i k h
    simp only [symCells] at h
    split at h
    · rename_i v hv
      obtain ⟨h1, h2⟩ := h
      obtain ⟨vs, e1, e2, e3⟩ := ih _ _ h2
      refine ⟨v :: vs, ?_, by simp [e2], e3⟩
      have : l.drop i = v :: l.drop (i + 1) := by
        obtain ⟨hi, hg⟩ := List.getElem?_eq_some_iff.1 h1
        rw [List.drop_eq_getElem_cons hi, hg]
      rw [this, List.length_cons, List.take_succ_cons, e1]
    · exact h.elim

theorem sLoad_sound {rows : Tr Row} {t : TypeId} {a : Value} {k : Value → Prop} (h : sLoad E rows t a k) : ∃ v, aLoad E.P rows t a = some v ∧ k v := by
  unfold sLoad at h
  split at h
  · rename_i r i
    split at h
    · split at h
      · rename_i v hv; exact ⟨v, hv, h⟩
      · exact h.elim
    · split at h
      · rename_i cells ro z _ hr hz ha
        split at h
        · rename_i v hv
          refine ⟨v, ?_, h.2⟩
          simp only [aLoad, hr, ha]; exact h.1
        · exact h.elim
      · rename_i cells ro z n hr hz ha hn
        obtain ⟨h1, h2⟩ := need_spec h
        have h1 := Nat.eq_of_beq_eq_true h1
        obtain ⟨vs, e1, e2, e3⟩ := symCells_sound _ _ _ _ h2
        refine ⟨_, ?_, e3⟩
        simp only [aLoad, hr, ha, hn, cut]
        rw [h1] at e1 e2
        rw [e1, e2]; simp
      · exact h.elim
  · exact h.elim

theorem sIndexAddr_sound {t : TypeId} {x i : Value} {k : Value → Prop} (h : sIndexAddr E t x i k) : ∃ v, aIndexAddr E.P t x i = some v ∧ k v := by
  unfold sIndexAddr at h
  split at h
  · rename_i elem r o len _ kd z hu
    obtain ⟨h1, h2⟩ := need_spec h
    simp only [decide_eq_true_eq] at h1
    cases z with
    | negSucc n => omega
    | ofNat n =>
      split at h2
      · rename_i m hm
        refine ⟨_, ?_, h2⟩
        have : Nat.blt n len = true := Nat.ble_eq_true_of_le (by have := h1.2; simp at this; omega)
        simp [aIndexAddr, hu, hm, this]
      · exact h2.elim
  · rename_i len elem r o kd z hu
    obtain ⟨h1, h2⟩ := need_spec h
    simp only [decide_eq_true_eq] at h1
    cases z with
    | negSucc n => omega
    | ofNat n =>
      split at h2
      · rename_i m hm
        refine ⟨_, ?_, h2⟩
        have : Nat.blt n len = true := Nat.ble_eq_true_of_le (by have := h1.2; simp at this; omega)
        simp [aIndexAddr, hu, hm, this]
      · exact h2.elim
  · exact h.elim

theorem sIndex_sound {t : TypeId} {x i : Value} {k : Value → Prop} (h : sIndex E t x i k) : ∃ v, aIndexV E.P t x i = some v ∧ k v := by
  unfold sIndex at h
  split at h
  · rename_i s kd z hu
    obtain ⟨h1, h2⟩ := need_spec h
    simp only [decide_eq_true_eq] at h1
    cases z with
    | negSucc n => omega
    | ofNat n =>
      have hn : n < s.data.toList.length := by have := h1.2; simp at this ⊢; omega
      refine ⟨_, ?_, h2⟩
      have hg := List.getElem?_eq_getElem hn
      simp only [aIndexV, hu, byteAt]
      show _ = some (Value.int .u8 (match s.data.toList[n]? with | some b => (b.toNat : Int) | none => 0))
      rw [hg]
  · rename_i len elem cs kd z hu
    obtain ⟨h1, h2⟩ := need_spec h
    simp only [decide_eq_true_eq] at h1
    cases z with
    | negSucc n => omega
    | ofNat n =>
      split at h2
      · rename_i m hm
        split at h2
        · rename_i v hv
          refine ⟨_, ?_, h2⟩
          have : Nat.blt n len = true := Nat.ble_eq_true_of_le (by have := h1.2; simp at this; omega)
          simp only [aIndexV, hu, this, cond_true, hm]
          exact hv
        · exact h2.elim
      · exact h2.elim
  · exact h.elim

theorem bnd_of {d : Nat} {x : Option Value} {z : Int} (h : sbnd d x = some z) (hz : 0 ≤ z) : bnd d x = some z.toNat := by
  unfold sbnd at h
  split at h
  · simp at h; subst h; simp [bnd]
  · rename_i k n
    simp at h; subst h
    cases n with
    | ofNat n => simp [bnd]
    | negSucc n => omega
  · simp at h

theorem sSlice_sound {t : TypeId} {x : Value} {lo hi : Option Value} {k : Value → Prop} (h : sSlice E t x lo hi k) : (∀ p, x ≠ .pointer p) ∧ ∃ v, aSlice E.P t x lo hi = some v ∧ k v := by
  unfold sSlice at h
  split at h
  · rename_i s hu
    refine ⟨fun p => by simp, ?_⟩
    split at h
    · rename_i l m hl hm
      obtain ⟨h1, h2⟩ := need_spec h
      simp only [decide_eq_true_eq] at h1
      refine ⟨_, ?_, h2⟩
      simp only [aSlice, hu, bnd_of hl h1.1]
      have hm' : bnd s.size hi = some m.toNat := bnd_of (d := s.size) (by rw [← hm]; rfl) (by omega)
      rw [hm']
      have c1 : Nat.ble l.toNat m.toNat = true := Nat.ble_eq_true_of_le (by omega)
      have c2 : Nat.ble m.toNat s.size = true := Nat.ble_eq_true_of_le (by have : s.data.toList.length = s.size := rfl; omega)
      simp [c1, c2]
    · exact h.elim
  · rename_i elem r o len e hu
    refine ⟨fun p => by simp, ?_⟩
    split at h
    · rename_i l m z hl hm hz
      obtain ⟨h1, h2⟩ := need_spec h
      obtain ⟨h2, h3⟩ := need_spec h2
      simp only [decide_eq_true_eq] at h1
      refine ⟨_, ?_, h3⟩
      simp only [aSlice, hu, bnd_of hl h1.1, bnd_of hm (by omega), hz]
      have c1 : Nat.ble l.toNat m.toNat = true := Nat.ble_eq_true_of_le (by omega)
      have c2 : Nat.ble m.toNat len = true := Nat.ble_eq_true_of_le (by omega)
      simp only [c1, c2, h2, Bool.and_self, cond_true]
    · exact h.elim
  · exact h.elim

variable {ρ ρ' : Operand → Option Value}

theorem pure_case {P : Program} (hl : RLe ρ ρ') {o : Oper} {k : Value → Prop} (h : match evPure P ρ o with | some v => k v | none => False) : ∃ v, evPure P ρ' o = some v ∧ k v := by
  split at h
  · rename_i v hv; exact ⟨v, evPure_mono hl hv, h⟩
  · exact h.elim

theorem evPure_div {P : Program} {o : Oper} {op : BinOp} {t t' : TypeId} {x y : Operand} (ho : o.op = .binOp op t x y t') {ka : IntKind} {a b : Int} (hx : ρ x = some (.int ka a)) (hy : ρ y = some (.int ka b)) (hb : b ≠ 0) :
    (op = .quo → evPure P ρ o = some (.int ka (ka.wrap (a.tdiv b)))) ∧ (op = .rem → evPure P ρ o = some (.int ka (a.tmod b))) := by
  have e := evPure_eq (P := P) (ρ := ρ) (o := o) (fun a b e => by rw [ho] at e; simp at e)
  have hf : flatAll ρ o.op.operands.toList = true := by simp [ho, Op.operands, flatAll, hx, hy, flat]
  rw [hf] at e
  constructor
  · rintro rfl
    rw [e]
    simp [execOp, ho, hx, hy, eqGuard, binOp, Op.intDiv, hb]
    rfl
  · rintro rfl
    rw [e]
    simp [execOp, ho, hx, hy, eqGuard, binOp, Op.intDiv, hb]
    rfl

theorem pr_bind {α β : Type} {P : Program} {f : α → Sem β} {a : α} : ∀ (s : Sem α), pureRun P s = some a → pureRun P (s >>= f) = pureRun P (f a) := by
  intro s
  induction s with
  | pure a => intro h; simp [pureRun] at h; subst h; rfl
  | program k ih => intro h; exact ih P h
  | mark m k ih => intro h; exact ih h
  | _ => intro h; simp [pureRun] at h

theorem pr_underlying {P : Program} {t : TypeId} {d : TypeDesc} (h : P.underlying t = some d) : pureRun P (underlying t) = some d := by
  unfold underlying
  rw [pr_bind _ (show pureRun P program = some P from rfl), h]; rfl

theorem pr_isAgg {P : Program} {t : TypeId} {b : Bool} (h : aggB P t = some b) : pureRun P (isAgg t) = some b := by
  unfold isAgg
  unfold aggB at h
  cases hu : P.underlying t with
  | none => rw [hu] at h; simp at h
  | some d =>
    rw [hu] at h
    rw [pr_bind _ (pr_underlying hu)]
    cases d <;> simp at h <;> subst h <;> rfl

theorem pr_sizeOf {P : Program} {t : TypeId} {n : Nat} (h : szOf P t = some n) : pureRun P (sizeOf t) = some n := by
  unfold szOf at h
  cases hi : P.info? t with
  | none => rw [hi] at h; simp at h
  | some i =>
    rw [hi] at h
    simp only [Option.map_some, Option.some.injEq] at h
    subst h
    have : pureRun P (typeInfo t) = some i := by
      unfold typeInfo
      rw [pr_bind _ (show pureRun P program = some P from rfl), hi]; rfl
    unfold sizeOf
    rw [pr_bind _ this]; rfl

theorem pr_part {P : Program} {t : TypeId} {cs : Array Value} {off : Nat} {v : Value} (h : aPart P t cs.toList off = some v) : pureRun P (part t cs off) = some v := by
  unfold part
  unfold aPart at h
  split at h
  · rename_i ha
    split at h
    · rename_i m hm
      rw [pr_bind _ (pr_isAgg ha)]
      simp only [if_true]
      rw [pr_bind _ (pr_sizeOf hm)]
      simp only [Option.some.injEq] at h
      subst h
      show some _ = some _
      congr 2
      apply Array.ext'
      simp [List.extract_eq_take_drop]
    · simp at h
  · rename_i ha
    rw [pr_bind _ (pr_isAgg ha)]
    have : cs[off]? = some v := by simpa using h
    simp only [this]
    rfl
  · simp at h

theorem pr_fields {P : Program} {xs ys : Array Value} (E : TypeId → Value → Value → Sem Bool) (e : TypeId → Value → Value → Option Bool) (hE : ∀ t a b r, e t a b = some r → pureRun P (E t a b) = some r) : ∀ (l : List Field) (r : Bool),
    l.foldr (fun f r => bif decide (f.name ≠ "_") then
            match aPart P f.type xs.toList f.offset, aPart P f.type ys.toList f.offset with
            | some a, some b => (match e f.type a b, r with | some u, some v => some (u && v) | _, _ => none)
            | _, _ => none
          else r) (some true) = some r →
    pureRun P (forIn l ((none : Option Bool), ()) fun f _ =>
              if f.name ≠ "_" then do
                let a ← part f.type xs f.offset
                let b ← part f.type ys f.offset
                let c ← E f.type a b
                if (!c) = true then pure (ForInStep.done (some false, ()))
                  else pure (ForInStep.yield (none, ()))
              else pure (ForInStep.yield (none, ()))) = some (bif r then none else some false, ()) := by
  intro l
  induction l with
  | nil => intro r h; simp at h; subst h; rfl
  | cons f l ih =>
    intro r h
    rw [List.foldr_cons] at h
    rw [List.forIn_cons]
    by_cases hn : f.name ≠ "_"
    · rw [decide_eq_true hn] at h
      simp only [cond_true] at h
      split at h
      · rename_i a b ha hb
        split at h
        · rename_i u v hu hv
          simp only [Option.some.injEq] at h
          subst h
          have step : pureRun P (if f.name ≠ "_" then do
                let a ← part f.type xs f.offset
                let b ← part f.type ys f.offset
                let c ← E f.type a b
                if (!c) = true then pure (ForInStep.done (some false, ()))
                  else pure (ForInStep.yield (none, ()))
              else pure (ForInStep.yield ((none : Option Bool), ()))) = some (bif u then ForInStep.yield (none, ()) else ForInStep.done (some false, ())) := by
            rw [if_pos hn, pr_bind _ (pr_part ha), pr_bind _ (pr_part hb), pr_bind _ (hE _ _ _ _ hu)]
            cases u <;> rfl
          rw [pr_bind _ step]
          cases u
          · rfl
          · simpa using ih _ hv
        · simp at h
      · simp at h
    · have hn' : f.name = "_" := Decidable.not_not.1 hn
      have : decide (f.name ≠ "_") = false := by simp [hn']
      rw [this] at h
      simp only [cond_false] at h
      have step : pureRun P (if f.name ≠ "_" then do
                let a ← part f.type xs f.offset
                let b ← part f.type ys f.offset
                let c ← E f.type a b
                if (!c) = true then pure (ForInStep.done (some false, ()))
                  else pure (ForInStep.yield (none, ()))
              else pure (ForInStep.yield ((none : Option Bool), ()))) = some (ForInStep.yield (none, ())) := by
        rw [if_neg hn]; rfl
      rw [pr_bind _ step]
      exact ih _ h

theorem eqS_sound {P : Program} : ∀ (d : Nat) (t : TypeId) (x y : Value) (r : Bool), eqS P d t x y = some r → ∀ D, d ≤ D → pureRun P (Op.equalIn D t x y) = some r := by
  intro d
  induction d with
  | zero => intro t x y r h; simp [eqS] at h
  | succ d ih =>
    intro t x y r h D hD
    obtain ⟨D', rfl⟩ : ∃ D', D = D' + 1 := ⟨D - 1, by omega⟩
    unfold eqS at h
    unfold Op.equalIn
    split at h
    · rename_i a b hu
      simp only [Option.some.injEq] at h; subst h
      rw [pr_bind _ (pr_underlying hu)]; rfl
    · rename_i k0 k a k' b hu
      rw [pr_bind _ (pr_underlying hu)]
      cases hk : decide (k = k') with
      | false => rw [hk] at h; simp at h
      | true =>
        rw [hk] at h
        simp only [cond_true, Option.some.injEq] at h; subst h
        have : k = k' := by simpa using hk
        simp only [this, if_true]
        rfl
    · rename_i a b hu
      simp only [Option.some.injEq] at h; subst h
      rw [pr_bind _ (pr_underlying hu)]; rfl
    · rename_i fields xs ys hu
      rw [pr_bind _ (pr_underlying hu)]
      cases hs : P.stoodInHeld t with
      | true => rw [hs] at h; simp at h
      | false =>
        rw [hs] at h
        simp only [cond_false] at h
        have h2 : pureRun P program = some P := rfl
        simp only []
        rw [pr_bind _ h2]
        simp only [hs, Bool.false_eq_true, if_false]
        have hf := pr_fields (P := P) (xs := xs) (ys := ys) (Op.equalIn D') (eqS P d) (fun t a b r hr => ih t a b r hr D' (by omega)) fields.toList r h
        rw [← Array.forIn_toList]
        rw [pr_bind _ hf]
        cases r <;> rfl
    · simp at h

theorem evPure_eq_agg {P : Program} {o : Oper} {op : BinOp} {t t' : TypeId} {x y : Operand} (ho : o.op = .binOp op t x y t') {a b : Array Value} (hx : ρ x = some (.agg a)) (hy : ρ y = some (.agg b)) (hfa : flat 12 (.agg a) = true) (hfb : flat 12 (.agg b) = true)
    (hg : P.eqGuardType P.depth t = false) {r : Bool} (he : eqS P 8 t (.agg a) (.agg b) = some r) :
    (op = .eql → evPure P ρ o = some (.bool r)) ∧ (op = .neq → evPure P ρ o = some (.bool (!r))) := by
  have e := evPure_eq (P := P) (ρ := ρ) (o := o) (fun a b e => by rw [ho] at e; simp at e)
  have hf : flatAll ρ o.op.operands.toList = true := by simp [ho, Op.operands, flatAll, hx, hy, hfa, hfb]
  rw [hf] at e
  have hq : pureRun P (Op.equal t (.agg a) (.agg b)) = some r := eqS_sound 8 _ _ _ _ he _ (by decide)
  have h2 : pureRun P program = some P := rfl
  constructor
  · rintro rfl
    rw [e]
    have hr : pureRun P (execOp (fun x => (ρ x).getD undef) o) = some (.value (.bool r)) := by
      unfold execOp
      rw [ho]
      simp only [hx, hy, Option.getD_some]
      have hgd : pureRun P (eqGuard .eql t x y (.agg a) (.agg b)) = some () := by
        unfold eqGuard
        simp only [Bool.not_true, Bool.false_eq_true, if_false]
        rw [pr_bind _ h2]
        try rw [pr_bind _ h2]
        simp [hg]; rfl
      have hb : pureRun P (do eqGuard .eql t x y (.agg a) (.agg b); binOp .eql t (.agg a) (.agg b)) = some (.bool r) := by
        rw [pr_bind _ hgd]
        unfold binOp
        rw [pr_bind _ hq]; rfl
      rw [pr_bind _ hb]; rfl
    rw [hr]; rfl
  · rintro rfl
    rw [e]
    have hr : pureRun P (execOp (fun x => (ρ x).getD undef) o) = some (.value (.bool (!r))) := by
      unfold execOp
      rw [ho]
      simp only [hx, hy, Option.getD_some]
      have hgd : pureRun P (eqGuard .neq t x y (.agg a) (.agg b)) = some () := by
        unfold eqGuard
        simp only [Bool.not_true, Bool.false_eq_true, if_false]
        rw [pr_bind _ h2]
        try rw [pr_bind _ h2]
        simp [hg]; rfl
      have hb : pureRun P (do eqGuard .neq t x y (.agg a) (.agg b); binOp .neq t (.agg a) (.agg b)) = some (.bool (!r)) := by
        rw [pr_bind _ hgd]
        unfold binOp
        rw [pr_bind _ hq]; rfl
      rw [pr_bind _ hb]; rfl
    rw [hr]; rfl

theorem sBin_sound (hl : RLe ρ ρ') {o : Oper} {op : BinOp} {t t' : TypeId} {x y : Operand} (ho : o.op = .binOp op t x y t') {k : Value → Prop} (h : sBin E ρ o op t x y k) : ∃ v, evBin E.P ρ' o op t x y = some v ∧ k v := by
  have lift : ∀ (f : Value → Prop), (∃ v, evBin E.P ρ o op t x y = some v ∧ k v) → ∃ v, evBin E.P ρ' o op t x y = some v ∧ k v := fun _ ⟨v, h1, h2⟩ => ⟨v, evBin_mono hl ho h1, h2⟩
  refine lift (fun _ => True) ?_
  unfold sBin at h
  unfold evBin
  have pc : (match evPure E.P ρ o with | some v => k v | none => False) → ∃ v, evPure E.P ρ o = some v ∧ k v := by
    intro h
    split at h
    · rename_i v hv; exact ⟨v, hv, h⟩
    · exact h.elim
  split at h
  · rename_i ka a kb b hx hy
    rw [hx, hy]
    simp only
    cases hk : decide (ka = kb) with
    | false => rw [hk] at h; simp only [cond_false] at h ⊢; exact pc h
    | true =>
      rw [hk] at h
      simp only [cond_true] at h ⊢
      have hkk : ka = kb := by simpa using hk
      subst hkk
      split at h
      · obtain ⟨h1, h2⟩ := need_spec h
        have hb : b ≠ 0 := by simpa using h1
        refine ⟨_, ?_, h2⟩
        simp only [ibin]
        exact (evPure_div ho hx hy hb).1 rfl
      · obtain ⟨h1, h2⟩ := need_spec h
        have hb : b ≠ 0 := by simpa using h1
        refine ⟨_, ?_, h2⟩
        simp only [ibin]
        exact (evPure_div ho hx hy hb).2 rfl
      · simp only [ibin]; exact pc h
      · simp only [ibin]; exact pc h
      · split at h
        · rename_i v hv; rw [hv]; exact ⟨v, rfl, h⟩
        · rename_i hv; rw [hv]; exact pc h
  · rename_i ka a kb b hx hy
    rw [hx, hy]
    simp only
    cases hk : decide (ka = kb) with
    | false => rw [hk] at h; exact h.elim
    | true =>
      rw [hk] at h
      simp only [cond_true] at h ⊢
      split at h
      · rename_i r _ h1; rw [h1]; exact ⟨_, rfl, h⟩
      · rename_i c h1 h2; rw [h1, h2]; exact ⟨_, rfl, h⟩
      · exact h.elim
  · rename_i a b hx hy
    rw [hx, hy]; simp only
    split at h
    · rename_i v hv; exact ⟨v, hv, h⟩
    · exact h.elim
  · rename_i a n c b m d hx hy
    rw [hx, hy]; simp only
    split at h
    · rename_i v hv; exact ⟨v, hv, h⟩
    · exact h.elim
  · rename_i hx hy
    rw [hx, hy]; simp only
    split at h
    · rename_i v hv; exact ⟨v, hv, h⟩
    · exact h.elim
  · rename_i a b hx hy
    rw [hx, hy]; simp only
    cases hg : (E.P.eqGuardType E.P.depth t || !(flat 12 (.agg a) && flat 12 (.agg b))) with
    | true => rw [hg] at h; exact h.elim
    | false =>
      rw [hg] at h
      simp only [cond_false] at h
      simp only [Bool.or_eq_false_iff, Bool.not_eq_false', Bool.and_eq_true] at hg
      split at h
      · rename_i r hr; exact ⟨_, (evPure_eq_agg ho hx hy hg.2.1 hg.2.2 hg.1 hr).1 rfl, h⟩
      · rename_i r hr; exact ⟨_, (evPure_eq_agg ho hx hy hg.2.1 hg.2.2 hg.1 hr).2 rfl, h⟩
      · exact h.elim
  · exact h.elim
  · exact h.elim
  · rename_i n1 n2 n3 n4 n5 n6 n7
    obtain ⟨v, hv, hk⟩ := pc h
    refine ⟨v, ?_, hk⟩
    have kx := evPure_known hv x (by rw [ho]; simp [Op.operands])
    have ky := evPure_known hv y (by rw [ho]; simp [Op.operands])
    obtain ⟨a, hx⟩ := kx
    obtain ⟨b, hy⟩ := ky
    rw [hx, hy]
    split <;> first
      | exact hv
      | (rename_i e1 e2; simp only [Option.some.injEq] at e1 e2; subst e1; subst e2; exfalso; first | exact n3 _ _ _ _ hx hy | exact n4 _ _ _ _ hx hy | exact n5 _ _ hx hy | exact n6 _ _ _ _ _ _ hx hy | exact n7 hx hy | exact n2 _ _ _ _ hx hy | exact n3 _ _ hx hy | exact n4 _ _ hx hy | exact n4 _ _ _ _ _ _ hx hy | exact n5 _ _ _ _ _ _ hx hy | exact n5 hx hy | exact n6 hx hy | exact n1 _ _ _ _ hx hy | (simp_all; done))

theorem sConv_sound (hl : RLe ρ ρ') {rows : Tr Row} {o : Oper} {src dst : TypeId} {x : Operand} (ho : o.op = .convert src dst x) {k : Value → Prop} (h : sConv E ρ rows o src dst x k) : ∃ v, evConv E.P ρ' rows o src dst x = some v ∧ k v := by
  have base : ∃ v, evConv E.P ρ rows o src dst x = some v ∧ k v := by
    unfold sConv at h
    unfold evConv
    split at h
    · rename_i n hx
      rw [hx]; simp only
      split at h
      · rename_i h1 h2; rw [h1, h2]; exact ⟨_, rfl, h⟩
      · rename_i hne
        split at h
        · rename_i v hv
          refine ⟨v, ?_, h⟩
          split
          · rename_i h1 h2; exact absurd h2 (hne _ _ h1)
          · exact hv
        · exact h.elim
    · rename_i a n c hx
      rw [hx]; simp only
      split at h
      · rename_i v hv; exact ⟨v, hv, h⟩
      · exact h.elim
    · rename_i n1 n2
      split at h
      · rename_i v hv
        refine ⟨v, ?_, h⟩
        split
        · rename_i hx; exact absurd hx (n1 _ _)
        · rename_i hx; exact absurd hx (n2 _ _ _)
        · exact hv
      · exact h.elim
  obtain ⟨v, h1, h2⟩ := base
  exact ⟨v, evConv_mono hl ho h1, h2⟩

theorem sQ_sound (hl : RLe ρ ρ') {rows : Tr Row} {o : Oper} {k : Value → Prop} (h : sQ E ρ rows o k) : ∃ v, evQ E.P ρ' rows o = some v ∧ k v := by
  have fld : ∀ (x : Operand) (f : Value → Option Value), (match ρ x with | some v => (match f v with | some v => k v | none => False) | none => False) → ∃ v, (match ρ' x with | some v => f v | none => none) = some v ∧ k v := by
    intro x f h
    split at h
    · rename_i v hv
      rw [hl _ _ hv]
      split at h
      · rename_i r hr; exact ⟨r, hr, h⟩
      · exact h.elim
    · exact h.elim
  unfold sQ at h
  unfold evQ
  split at h
  · rename_i x e; rw [e]
    split at h
    · rename_i v hv; exact ⟨v, hl _ _ hv, h⟩
    · exact h.elim
  · rename_i x e; rw [e]
    split at h
    · rename_i v hv; exact ⟨v, hl _ _ hv, h⟩
    · exact h.elim
  · rename_i c a b e; rw [e]
    split at h
    · rename_i b0 hc
      simp only [hl _ _ hc]
      split at h
      · rename_i x y hx hy
        cases b0
        · exact ⟨_, hl _ _ hy, h⟩
        · exact ⟨_, hl _ _ hx, h⟩
      · rename_i x y _ hx hy
        rcases br_spec h with ⟨rfl, h⟩ | ⟨rfl, h⟩
        · exact ⟨_, hl _ _ hx, h⟩
        · exact ⟨_, hl _ _ hy, h⟩
      · rename_i x hx hy
        obtain ⟨rfl, h⟩ := need_spec h
        exact ⟨_, hl _ _ hx, h⟩
      · rename_i y hx hy
        obtain ⟨h1, h⟩ := need_spec h
        simp at h1; subst h1
        exact ⟨_, hl _ _ hy, h⟩
      · exact h.elim
    · exact h.elim
  · rename_i t a e; rw [e]
    split at h
    · rename_i v hv
      simp only [hl _ _ hv]
      exact sLoad_sound E h
    · exact h.elim
  · rename_i x e; rw [e]
    split at h
    · rename_i a hv; simp only [hl _ _ hv]; exact ⟨_, rfl, h⟩
    · rename_i f c d hv; simp only [hl _ _ hv]; exact ⟨_, rfl, h⟩
    · exact h.elim
  · rename_i op t x y t' e; rw [e]; exact sBin_sound E hl e h
  · rename_i t x e; rw [e]
    split at h
    · rename_i v hv
      simp only [hl _ _ hv]
      cases hc : E.P.concrete t with
      | false => rw [hc] at h; exact h.elim
      | true => rw [hc] at h; exact ⟨_, rfl, h⟩
    · exact h.elim
  · rename_i t x f e; rw [e]; exact fld x _ h
  · rename_i t x f e; rw [e]; exact fld x _ h
  · rename_i t x i e; rw [e]
    split at h
    · rename_i v j hv hj; simp only [hl _ _ hv, hl _ _ hj]; exact sIndexAddr_sound E h
    · exact h.elim
  · rename_i t x i e; rw [e]
    split at h
    · rename_i v j hv hj; simp only [hl _ _ hv, hl _ _ hj]; exact sIndex_sound E h
    · exact h.elim
  · rename_i t x lo hi e; rw [e]
    split at h
    · rename_i v l m hv h1 h2
      simp only [hl _ _ hv, opt_mono hl h1, opt_mono hl h2]
      obtain ⟨np, r⟩ := sSlice_sound E h
      cases v with
      | pointer p => exact absurd rfl (np p)
      | _ => exact r
    · exact h.elim
  · rename_i x i e; rw [e]; exact fld x _ h
  · rename_i t ps e; rw [e]
    split at h
    · rename_i v hv; exact ⟨v, aBuild_mono hl hv, h⟩
    · exact h.elim
  · rename_i src dst x e; rw [e]; exact sConv_sound E hl e h
  · rename_i c e; rw [e]
    obtain ⟨cl, as, ts⟩ := c
    split at h
    · rename_i hc; cases hc
      split at h
      · rename_i v hv; exact ⟨v, evLen_mono hl hv, h⟩
      · exact h.elim
    · rename_i hne
      split at h
      · rename_i v hv
        refine ⟨v, ?_, h⟩
        cases cl <;> first | exact evPure_mono hl hv | skip
        rename_i b
        cases b <;> first | exact evPure_mono hl hv | exact absurd rfl hne
      · exact h.elim
  · rename_i fn first cap e; rw [e]
    split at h
    · rename_i a b ha hb; simp only [aArgs_mono hl _ _ ha, aArgs_mono hl _ _ hb]; exact ⟨_, rfl, h⟩
    · exact h.elim
  · rename_i e; rw [e]; exact pure_case hl h
  · exact h.elim
end
end Go.Sy
