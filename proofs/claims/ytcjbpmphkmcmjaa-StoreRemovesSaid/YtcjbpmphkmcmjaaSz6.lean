/- An evaluator of the model's code, sound for every world, second edition: part 6. -/
import Derived.Test.YtcjbpmphkmcmjaaSz5
namespace Go.Sy
noncomputable section
open Go.Ev Go.RowKit
theorem need_spec {b : Bool} {p : Prop} (h : need b p) : b = true ∧ p := by
  unfold need at h; cases b <;> simp at h; exact ⟨rfl, h⟩
theorem br_spec {b : Bool} {x y : Prop} (h : br b x y) : (b = true ∧ x) ∨ (b = false ∧ y) := by
  unfold br at h; cases b
  · exact .inr ⟨rfl, h⟩
  · exact .inl ⟨rfl, h⟩
theorem br_intro {b : Bool} {x y : Prop} (h : b = true → x) (k : b = false → y) : br b x y := by
  unfold br; cases b
  · exact k rfl
  · exact h rfl
theorem self_veq : ∀ (n : Nat) (v : Value), self n v = true → veq n v v = true := by
  have all : ∀ (n : Nat) (ih : ∀ v, self n v = true → veq n v v = true) (x : List Value), x.all (self n) = true → (Nat.beq x.length x.length && (x.zip x).all fun p => veq n p.1 p.2) = true := by
    intro n ih x h
    simp only [Bool.and_eq_true]
    refine ⟨Nat.beq_refl _, ?_⟩
    rw [List.all_eq_true] at h ⊢
    rintro ⟨a, b⟩ hp
    have hab : a = b ∧ a ∈ x := by
      clear h
      induction x with
      | nil => simp at hp
      | cons c r ih2 =>
        simp only [List.zip_cons_cons, List.mem_cons, Prod.mk.injEq] at hp
        rcases hp with ⟨rfl, rfl⟩ | hp
        · exact ⟨rfl, by simp⟩
        · obtain ⟨e, m⟩ := ih2 hp; exact ⟨e, by simp [m]⟩
    obtain ⟨rfl, hm⟩ := hab
    exact ih a (h a hm)
  intro n
  induction n with
  | zero => intro v h; simp [self] at h
  | succ n ih =>
    intro v h
    unfold self at h
    split at h <;> first | (simp at h; done) | skip
    all_goals first
      | (simp [veq]; done)
      | skip
    · rename_i e; cases e; unfold veq; exact all _ ih _ h
    · rename_i e; cases e; unfold veq; exact all _ ih _ h
    · rename_i e; cases e; unfold veq
      simp only [Bool.and_eq_true] at h
      have h1 := all _ ih _ h.1
      have h2 := all _ ih _ h.2
      rw [h1, h2]; simp
section
variable (E : Env)
theorem symCells_sound (l : List Value) : ∀ (zs : List Value) (i : Nat) (ms : List Nat) (k : List Value → Prop), symCells l i zs ms k → ∃ vs, (l.drop i).take zs.length = vs ∧ vs.length = zs.length ∧ k vs := by
  intro zs
  induction zs with
  | nil => intro i ms k h; exact ⟨[], by simp, rfl, h⟩
  | cons z r ih =>
    intro i ms k h
    simp only [symCells] at h
    split at h
    · rename_i v hv
      obtain ⟨h1, h2⟩ := h
      obtain ⟨vs, e1, e2, e3⟩ := ih _ _ _ h2
      refine ⟨v :: vs, ?_, by simp [e2], e3⟩
      have : l.drop i = v :: l.drop (i + 1) := by
        obtain ⟨hi, hg⟩ := List.getElem?_eq_some_iff.1 h1
        rw [List.drop_eq_getElem_cons hi, hg]
      rw [this, List.length_cons, List.take_succ_cons, e1]
    · exact h.elim
theorem sLoadC_sound {t : TypeId} {cells : List Value} {i : Nat} {k : Value → Prop} (h : sLoadC E t cells i k) :
    ∃ v, (match aggB E.P t with
      | some true => (match szOf E.P t with | some n => (cut cells i n).map fun l => Value.agg l.toArray | none => none)
      | some false => cells[i]?
      | none => none) = some v ∧ k v := by
  unfold sLoadC at h
  split at h
  · rename_i z _ hz ha
    split at h
    · rename_i v hv
      refine ⟨v, ?_, h.2⟩
      simp only [ha]; exact h.1
    · exact h.elim
  · rename_i z n hz ha hn
    cases hbig : Nat.ble 100 n with
    | true =>
      rw [hbig] at h
      obtain ⟨h1, h2⟩ := need_spec (show need _ _ from h)
      simp only [decide_eq_true_eq] at h1
      refine ⟨_, ?_, h2⟩
      simp only [ha, hn, cut]
      have : ((cells.drop i).take n).length = n := by simp; omega
      simp [this]
    | false =>
    rw [hbig] at h
    obtain ⟨h1, h2⟩ := need_spec (show need _ _ from h)
    have h1 := Nat.eq_of_beq_eq_true h1
    obtain ⟨vs, e1, e2, e3⟩ := symCells_sound _ _ _ _ _ h2
    refine ⟨_, ?_, e3⟩
    simp only [ha, hn, cut]
    rw [h1] at e1 e2
    rw [e1, e2]; simp
  · exact h.elim
theorem sLoad_sound {rows : Tr Row} {t : TypeId} {a : Value} {k : Value → Prop} (h : sLoad E rows t a k) : ∃ v, aLoad E.P rows t a = some v ∧ k v := by
  unfold sLoad at h
  split at h
  · rename_i r i
    split at h
    · rename_i cells ro hr
      cases hl : E.lit with
      | true =>
        rw [hl] at h
        simp only [cond_true] at h
        split at h
        · rename_i v hv; exact ⟨v, hv, h⟩
        · exact h.elim
      | false =>
        rw [hl] at h
        simp only [cond_false] at h
        obtain ⟨v, h1, h2⟩ := sLoadC_sound E h
        refine ⟨v, ?_, h2⟩
        simp only [aLoad, hr]; exact h1
    · rename_i cells ro hr
      split at h
      · obtain ⟨v, h1, h2⟩ := sLoadC_sound E h
        refine ⟨v, ?_, h2⟩
        simp only [aLoad, hr]; exact h1
      · split at h
        · rename_i v hv; exact ⟨v, hv, h⟩
        · exact h.elim
    · exact h.elim
  · rename_i z i
    obtain ⟨v, h1, h2⟩ := sLoadC_sound E h
    exact ⟨v, h1, h2⟩
  · exact h.elim
theorem bytesOf_all : ∀ (l : List Value), AllB l → bytesOf l = some (l.map bOf) := by
  intro l
  induction l with
  | nil => intro _; rfl
  | cons v r ih =>
    intro h
    obtain ⟨n, rfl⟩ := h v (by simp)
    simp only [bytesOf, ih (fun x hx => h x (by simp [hx])), List.map_cons]
    rfl
theorem sTextC_sound {src dst : TypeId} {cells : List Value} {i len : Nat} {k : Value → Prop} (h : sTextC E src dst cells i len k) :
    ∃ e bs, E.P.underlying src = some (.slice e) ∧ E.P.underlying dst = some .string ∧ E.P.underlying e = some (.int .u8) ∧ cut cells i len = some ((cells.drop i).take len) ∧ bytesOf ((cells.drop i).take len) = some bs ∧ k (.string ⟨bs.toArray⟩) := by
  unfold sTextC at h
  split at h
  · rename_i el h1 h2
    split at h
    · rename_i h3
      obtain ⟨h4, h56⟩ := need_spec h
      simp only [decide_eq_true_eq] at h4
      obtain ⟨h5, h6⟩ : AllB ((cells.drop i).take len) ∧ k (.string ⟨(((cells.drop i).take len).map bOf).toArray⟩) := by
        cases hl : E.lit with
        | false => rw [hl] at h56; exact h56
        | true =>
          rw [hl] at h56
          obtain ⟨h7, h8⟩ := need_spec h56
          exact ⟨allBb_all _ h7, h8⟩
      refine ⟨el, _, h1, h2, h3, ?_, bytesOf_all _ h5, h6⟩
      unfold cut
      have : ((cells.drop i).take len).length = len := by simp; omega
      simp only [this]; simp
    · exact h.elim
  · exact h.elim
theorem sText_sound {rows : Tr Row} {src dst : TypeId} {x : Value} {k : Value → Prop} (h : sText E rows src dst x k) : ∃ v, aText E.P rows src dst x = some v ∧ k v := by
  have pc : ∀ x, (match aText E.P rows src dst x with | some v => k v | none => False) → ∃ v, aText E.P rows src dst x = some v ∧ k v := by
    intro x h
    split at h
    · rename_i v hv; exact ⟨v, hv, h⟩
    · exact h.elim
  unfold sText at h
  split at h
  · rename_i r i len e
    split at h
    · rename_i cells ro hr
      obtain ⟨e1, bs, h1, h2, h3, h4, h5, h6⟩ := sTextC_sound E h
      refine ⟨_, ?_, h6⟩
      simp only [aText, h1, h2, h3, hr, h4, h5]
    · exact pc _ h
  · obtain ⟨e1, bs, h1, h2, h3, h4, h5, h6⟩ := sTextC_sound E h
    refine ⟨_, ?_, h6⟩
    simp only [aText, h1, h2, h3, h4, h5]
  · exact pc _ h
theorem sIndexAddr_sound {t : TypeId} {x i : Value} {k : Value → Prop} (h : sIndexAddr E t x i k) : ∃ v, aIndexAddr E.P t x i = some v ∧ k v := by
  unfold sIndexAddr at h
  split at h
  · rename_i elem r o len _ kd z hu
    obtain ⟨h1, h2⟩ := need_spec h
    simp only [decide_eq_true_eq] at h1
    cases z with
    | negSucc n => omega
    | ofNat n =>
      split at h2
      · rename_i m hm
        refine ⟨_, ?_, h2⟩
        have : Nat.blt n len = true := Nat.ble_eq_true_of_le (by have := h1.2; simp at this; omega)
        simp only [aIndexAddr, hu, hm, this, cond_true]; rfl
      · exact h2.elim
  · rename_i len elem r o kd z hu
    obtain ⟨h1, h2⟩ := need_spec h
    simp only [decide_eq_true_eq] at h1
    cases z with
    | negSucc n => omega
    | ofNat n =>
      split at h2
      · rename_i m hm
        refine ⟨_, ?_, h2⟩
        have : Nat.blt n len = true := Nat.ble_eq_true_of_le (by have := h1.2; simp at this; omega)
        simp only [aIndexAddr, hu, hm, this, cond_true]; rfl
      · exact h2.elim
  · rename_i elem r o len _ kd z hu
    obtain ⟨h1, h2⟩ := need_spec h
    simp only [decide_eq_true_eq] at h1
    cases z with
    | negSucc n => omega
    | ofNat n =>
      split at h2
      · rename_i m hm
        refine ⟨_, ?_, h2⟩
        have : Nat.blt n len = true := Nat.ble_eq_true_of_le (by have := h1.2; simp at this; omega)
        simp only [aIndexAddr, hu, hm, this, cond_true]; rfl
      · exact h2.elim
  · rename_i len elem r o kd z hu
    obtain ⟨h1, h2⟩ := need_spec h
    simp only [decide_eq_true_eq] at h1
    cases z with
    | negSucc n => omega
    | ofNat n =>
      split at h2
      · rename_i m hm
        refine ⟨_, ?_, h2⟩
        have : Nat.blt n len = true := Nat.ble_eq_true_of_le (by have := h1.2; simp at this; omega)
        simp only [aIndexAddr, hu, hm, this, cond_true]; rfl
      · exact h2.elim
  · exact h.elim
theorem sIndex_sound {t : TypeId} {x i : Value} {k : Value → Prop} (h : sIndex E t x i k) : ∃ v, aIndexV E.P t x i = some v ∧ k v := by
  unfold sIndex at h
  split at h
  · rename_i s kd z hu
    obtain ⟨h1, h2⟩ := need_spec h
    simp only [decide_eq_true_eq] at h1
    cases z with
    | negSucc n => omega
    | ofNat n =>
      have hn : n < s.data.toList.length := by have := h1.2; simp at this ⊢; omega
      refine ⟨_, ?_, h2⟩
      have hg := List.getElem?_eq_getElem hn
      simp only [aIndexV, hu, byteAt]
      show _ = some (Value.int .u8 (match s.data.toList[n]? with | some b => (b.toNat : Int) | none => 0))
      rw [hg]
  · rename_i len elem cs kd z hu
    obtain ⟨h1, h2⟩ := need_spec h
    simp only [decide_eq_true_eq] at h1
    cases z with
    | negSucc n => omega
    | ofNat n =>
      have hlt : Nat.blt n len = true := Nat.ble_eq_true_of_le (by have := h1.2; simp at this; omega)
      cases hbig : Nat.ble 100 len with
      | true =>
        rw [hbig] at h2
        simp only [cond_true] at h2
        split at h2
        · rename_i y m hy ha hm
          split at h2
          · rename_i v hv
            refine ⟨v, ?_, h2.2⟩
            simp only [aIndexV, hu, hlt, cond_true, hm, aPart, ha]
            exact h2.1
          · exact h2.elim
        · exact h2.elim
      | false =>
      rw [hbig] at h2
      simp only [cond_false] at h2
      split at h2
      · rename_i m hm
        split at h2
        · rename_i v hv
          refine ⟨_, ?_, h2⟩
          simp only [aIndexV, hu, hlt, cond_true, hm]
          exact hv
        · exact h2.elim
      · exact h2.elim
  · exact h.elim
theorem bnd_of {d : Nat} {x : Option Value} {z : Int} (h : sbnd d x = some z) (hz : 0 ≤ z) : bnd d x = some z.toNat := by
  unfold sbnd at h
  split at h
  · simp at h; subst h; simp [bnd]
  · rename_i k n
    simp at h; subst h
    cases n with
    | ofNat n => simp [bnd]
    | negSucc n => omega
  · simp at h
theorem sSlice_sound {t : TypeId} {x : Value} {lo hi : Option Value} {k : Value → Prop} (h : sSlice E t x lo hi k) : (∀ p, x ≠ .pointer p) ∧ ∃ v, aSlice E.P t x lo hi = some v ∧ k v := by
  unfold sSlice at h
  split at h
  · rename_i s hu
    refine ⟨fun p => by simp, ?_⟩
    split at h
    · rename_i l m hl hm
      obtain ⟨h1, h2⟩ := need_spec h
      simp only [decide_eq_true_eq] at h1
      refine ⟨_, ?_, h2⟩
      simp only [aSlice, hu, bnd_of hl h1.1]
      have hm' : bnd s.size hi = some m.toNat := bnd_of (d := s.size) (by rw [← hm]; rfl) (by omega)
      rw [hm']
      have c1 : Nat.ble l.toNat m.toNat = true := Nat.ble_eq_true_of_le (by omega)
      have c2 : Nat.ble m.toNat s.size = true := Nat.ble_eq_true_of_le (by have : s.data.toList.length = s.size := rfl; omega)
      simp [c1, c2]
    · exact h.elim
  · rename_i elem r o len e hu
    refine ⟨fun p => by simp, ?_⟩
    split at h
    · rename_i l m z hl hm hz
      obtain ⟨h1, h2⟩ := need_spec h
      obtain ⟨h2, h3⟩ := need_spec h2
      simp only [decide_eq_true_eq] at h1
      refine ⟨_, ?_, h3⟩
      simp only [aSlice, hu, bnd_of hl h1.1, bnd_of hm (by omega), hz]
      have c1 : Nat.ble l.toNat m.toNat = true := Nat.ble_eq_true_of_le (by omega)
      have c2 : Nat.ble m.toNat len = true := Nat.ble_eq_true_of_le (by omega)
      simp only [c1, c2, h2, Bool.and_self, cond_true]
    · exact h.elim
  · rename_i elem r o len e hu
    refine ⟨fun p => by simp, ?_⟩
    split at h
    · rename_i l m z hl hm hz
      obtain ⟨h1, h2⟩ := need_spec h
      obtain ⟨h2, h3⟩ := need_spec h2
      simp only [decide_eq_true_eq] at h1
      refine ⟨_, ?_, h3⟩
      simp only [aSlice, hu, bnd_of hl h1.1, bnd_of hm (by omega), hz]
      have c1 : Nat.ble l.toNat m.toNat = true := Nat.ble_eq_true_of_le (by omega)
      have c2 : Nat.ble m.toNat len = true := Nat.ble_eq_true_of_le (by omega)
      simp only [c1, c2, h2, Bool.and_self, cond_true]
    · exact h.elim
  · rename_i elem hu
    refine ⟨fun p => by simp, ?_⟩
    split at h
    · rename_i l m z hl hm hz
      obtain ⟨h1, h2⟩ := need_spec h
      simp only [decide_eq_true_eq] at h1
      obtain ⟨rfl, rfl⟩ := h1
      refine ⟨_, ?_, h2⟩
      simp only [aSlice, hu, bnd_of hl (Int.le_refl 0), bnd_of (d := 0) hm (Int.le_refl 0), hz, Int.toNat_zero]
    · exact h.elim
  · exact h.elim
variable {ρ ρ' : Operand → Option Value}
theorem pure_case {P : Program} (hl : RLe ρ ρ') {o : Oper} {k : Value → Prop} (h : match evPure P ρ o with | some v => k v | none => False) : ∃ v, evPure P ρ' o = some v ∧ k v := by
  split at h
  · rename_i v hv; exact ⟨v, evPure_mono hl hv, h⟩
  · exact h.elim
theorem evPure_div {P : Program} {o : Oper} {op : BinOp} {t t' : TypeId} {x y : Operand} (ho : o.op = .binOp op t x y t') {ka : IntKind} {a b : Int} (hx : ρ x = some (.int ka a)) (hy : ρ y = some (.int ka b)) (hb : b ≠ 0) :
    (op = .quo → evPure P ρ o = some (.int ka (ka.wrap (a.tdiv b)))) ∧ (op = .rem → evPure P ρ o = some (.int ka (a.tmod b))) := by
  have e := evPure_eq (P := P) (ρ := ρ) (o := o) (fun a b e => by rw [ho] at e; simp at e)
  have hf : flatAll ρ o.op.operands.toList = true := by simp [ho, Op.operands, flatAll, hx, hy, flat]
  rw [hf] at e
  constructor
  · rintro rfl
    rw [e]
    simp [execOp, ho, hx, hy, eqGuard, binOp, Op.intDiv, hb]
    rfl
  · rintro rfl
    rw [e]
    simp [execOp, ho, hx, hy, eqGuard, binOp, Op.intDiv, hb]
    rfl
theorem evPure_div0 {P : Program} {o : Oper} {t t' : TypeId} {x y : Operand} (ho : o.op = .binOp .quo t x y t') {ka : IntKind} {a : Int} (hx : ρ x = some (.int ka a)) (hy : ρ y = some (.int ka 0)) : evPure P ρ o = none := by
  have e := evPure_eq (P := P) (ρ := ρ) (o := o) (fun a b e => by rw [ho] at e; simp at e)
  have hf : flatAll ρ o.op.operands.toList = true := by simp [ho, Op.operands, flatAll, hx, hy, flat]
  rw [hf] at e
  rw [e]
  simp [execOp, ho, hx, hy, eqGuard, binOp, Op.intDiv, runtimePanic, goPanic]
  rfl
theorem pr_bind' {α β : Type} {P : Program} {f : α → Sem β} {a : α} : ∀ (s : Sem α), pureRun P s = some a → pureRun P (s >>= f) = pureRun P (f a) := by
  intro s
  induction s with
  | pure x => intro h; simp [pureRun] at h; subst h; rfl
  | program k ih => intro h; exact ih P h
  | mark m k ih => intro h; exact ih h
  | _ => intro h; simp [pureRun] at h
theorem evPure_bits {P : Program} {o : Oper} {op : BinOp} {t t' : TypeId} {x y : Operand} (ho : o.op = .binOp op t x y t') {ka kb : IntKind} {a b : Int} (hx : ρ x = some (.int ka a)) (hy : ρ y = some (.int kb b)) {r : Value}
    (hr : ∀ w, (binOp op t (.int ka a) (.int kb b)) = w → pureRun P w = some r) (hg : eqGuard op t x y (.int ka a) (.int kb b) = pure ()) (hfr : flat 12 r = true) : evPure P ρ o = some r := by
  have e := evPure_eq (P := P) (ρ := ρ) (o := o) (fun a b e => by rw [ho] at e; simp at e)
  have hf : flatAll ρ o.op.operands.toList = true := by simp [ho, Op.operands, flatAll, hx, hy, flat]
  rw [hf] at e
  have e2 : pureRun P (execOp (fun x => (ρ x).getD undef) o) = some (.value r) := by
    simp only [execOp, ho, hx, hy, Option.getD_some, hg]
    exact pr_bind' (do pure (); binOp op t (.int ka a) (.int kb b)) (hr _ rfl)
  rw [e, e2]
  simp only [cond_true, hfr]
theorem evPure_str {P : Program} {o : Oper} {op : BinOp} {t t' : TypeId} {x y : Operand} (ho : o.op = .binOp op t x y t') {a b : ByteArray} (hx : ρ x = some (.string a)) (hy : ρ y = some (.string b)) {r : Value}
    (hr : pureRun P (binOp op t (.string a) (.string b)) = some r) (hg : eqGuard op t x y (.string a) (.string b) = pure ()) (hfr : flat 12 r = true) : evPure P ρ o = some r := by
  have e := evPure_eq (P := P) (ρ := ρ) (o := o) (fun a b e => by rw [ho] at e; simp at e)
  have hf : flatAll ρ o.op.operands.toList = true := by simp [ho, Op.operands, flatAll, hx, hy, flat]
  rw [hf] at e
  have e2 : pureRun P (execOp (fun x => (ρ x).getD undef) o) = some (.value r) := by
    simp only [execOp, ho, hx, hy, Option.getD_some, hg]
    exact pr_bind' (do pure (); binOp op t (.string a) (.string b)) hr
  rw [e, e2]
  simp only [cond_true, hfr]
theorem sShift_sound {P : Program} {o : Oper} {op : BinOp} {t t' : TypeId} {x y : Operand} (ho : o.op = .binOp op t x y t') {ka kb : IntKind} {a b : Int} (hx : ρ x = some (.int ka a)) (hy : ρ y = some (.int kb b)) {k : Value → Prop}
    (h : sShift op ka a b k) : ∃ v, evPure P ρ o = some v ∧ k v := by
  unfold sShift at h
  split at h
  · obtain ⟨h1, h2⟩ := need_spec h
    simp only [decide_eq_true_eq] at h1
    refine ⟨_, evPure_bits ho hx hy (fun w hw => ?_) rfl rfl, h2⟩
    subst hw
    simp only [binOp, Op.shift]
    rw [if_neg (by omega)]; rfl
  · obtain ⟨h1, h2⟩ := need_spec h
    simp only [decide_eq_true_eq] at h1
    refine ⟨_, evPure_bits ho hx hy (fun w hw => ?_) rfl rfl, h2⟩
    subst hw
    simp only [binOp, Op.shift]
    rw [if_neg (by omega)]; rfl
  · exact h.elim
theorem sStr_sound {P : Program} {o : Oper} {op : BinOp} {t t' : TypeId} {x y : Operand} (ho : o.op = .binOp op t x y t') {a b : ByteArray} (hx : ρ x = some (.string a)) (hy : ρ y = some (.string b)) {k : Value → Prop}
    (h : sStr op a b k) : ∃ v, evPure P ρ o = some v ∧ k v := by
  unfold sStr at h
  split at h
  · obtain ⟨h1, h2⟩ := need_spec h
    simp only [decide_eq_true_eq] at h1
    refine ⟨_, evPure_str ho hx hy ?_ rfl rfl, h2⟩
    have e1 : IntKind.i64.max = 9223372036854775807 := by decide
    have s1 : a.size = a.data.toList.length := by simp
    have s2 : b.size = b.data.toList.length := by simp
    simp only [binOp, Op.stringOp]
    rw [if_neg (by rw [e1, s1, s2]; omega)]; rfl
  all_goals first
    | exact ⟨_, evPure_str ho hx hy rfl rfl rfl, h⟩
    | exact h.elim
theorem pr_bind {α β : Type} {P : Program} {f : α → Sem β} {a : α} : ∀ (s : Sem α), pureRun P s = some a → pureRun P (s >>= f) = pureRun P (f a) := by
  intro s
  induction s with
  | pure a => intro h; simp [pureRun] at h; subst h; rfl
  | program k ih => intro h; exact ih P h
  | mark m k ih => intro h; exact ih h
  | _ => intro h; simp [pureRun] at h
theorem pr_underlying {P : Program} {t : TypeId} {d : TypeDesc} (h : P.underlying t = some d) : pureRun P (underlying t) = some d := by
  unfold underlying
  rw [pr_bind _ (show pureRun P program = some P from rfl), h]; rfl
theorem pr_isAgg {P : Program} {t : TypeId} {b : Bool} (h : aggB P t = some b) : pureRun P (isAgg t) = some b := by
  unfold isAgg
  unfold aggB at h
  cases hu : P.underlying t with
  | none => rw [hu] at h; simp at h
  | some d =>
    rw [hu] at h
    rw [pr_bind _ (pr_underlying hu)]
    cases d <;> simp at h <;> subst h <;> rfl
theorem pr_sizeOf {P : Program} {t : TypeId} {n : Nat} (h : szOf P t = some n) : pureRun P (sizeOf t) = some n := by
  unfold szOf at h
  cases hi : P.info? t with
  | none => rw [hi] at h; simp at h
  | some i =>
    rw [hi] at h
    simp only [Option.map_some, Option.some.injEq] at h
    subst h
    have : pureRun P (typeInfo t) = some i := by
      unfold typeInfo
      rw [pr_bind _ (show pureRun P program = some P from rfl), hi]; rfl
    unfold sizeOf
    rw [pr_bind _ this]; rfl
theorem pr_part {P : Program} {t : TypeId} {cs : Array Value} {off : Nat} {v : Value} (h : aPart P t cs.toList off = some v) : pureRun P (part t cs off) = some v := by
  unfold part
  unfold aPart at h
  split at h
  · rename_i ha
    split at h
    · rename_i m hm
      rw [pr_bind _ (pr_isAgg ha)]
      simp only [if_true]
      rw [pr_bind _ (pr_sizeOf hm)]
      simp only [Option.some.injEq] at h
      subst h
      show some _ = some _
      congr 2
      apply Array.ext'
      simp [List.extract_eq_take_drop]
    · simp at h
  · rename_i ha
    rw [pr_bind _ (pr_isAgg ha)]
    have : cs[off]? = some v := by simpa using h
    simp only [this]
    rfl
  · simp at h
theorem pr_fields {P : Program} {xs ys : Array Value} (E : TypeId → Value → Value → Sem Bool) (e : TypeId → Value → Value → Option Bool) (hE : ∀ t a b r, e t a b = some r → pureRun P (E t a b) = some r) : ∀ (l : List Field) (r : Bool),
    l.foldr (fun f r => bif decide (f.name ≠ "_") then
            match aPart P f.type xs.toList f.offset, aPart P f.type ys.toList f.offset with
            | some a, some b => (match e f.type a b, r with | some u, some v => some (u && v) | _, _ => none)
            | _, _ => none
          else r) (some true) = some r →
    pureRun P (forIn l ((none : Option Bool), ()) fun f _ =>
              if f.name ≠ "_" then do
                let a ← part f.type xs f.offset
                let b ← part f.type ys f.offset
                let c ← E f.type a b
                if (!c) = true then pure (ForInStep.done (some false, ()))
                  else pure (ForInStep.yield (none, ()))
              else pure (ForInStep.yield (none, ()))) = some (bif r then none else some false, ()) := by
  intro l
  induction l with
  | nil => intro r h; simp at h; subst h; rfl
  | cons f l ih =>
    intro r h
    rw [List.foldr_cons] at h
    rw [List.forIn_cons]
    by_cases hn : f.name ≠ "_"
    · rw [decide_eq_true hn] at h
      simp only [cond_true] at h
      split at h
      · rename_i a b ha hb
        split at h
        · rename_i u v hu hv
          simp only [Option.some.injEq] at h
          subst h
          have step : pureRun P (if f.name ≠ "_" then do
                let a ← part f.type xs f.offset
                let b ← part f.type ys f.offset
                let c ← E f.type a b
                if (!c) = true then pure (ForInStep.done (some false, ()))
                  else pure (ForInStep.yield (none, ()))
              else pure (ForInStep.yield ((none : Option Bool), ()))) = some (bif u then ForInStep.yield (none, ()) else ForInStep.done (some false, ())) := by
            rw [if_pos hn, pr_bind _ (pr_part ha), pr_bind _ (pr_part hb), pr_bind _ (hE _ _ _ _ hu)]
            cases u <;> rfl
          rw [pr_bind _ step]
          cases u
          · rfl
          · simpa using ih _ hv
        · simp at h
      · simp at h
    · have hn' : f.name = "_" := Decidable.not_not.1 hn
      have : decide (f.name ≠ "_") = false := by simp [hn']
      rw [this] at h
      simp only [cond_false] at h
      have step : pureRun P (if f.name ≠ "_" then do
                let a ← part f.type xs f.offset
                let b ← part f.type ys f.offset
                let c ← E f.type a b
                if (!c) = true then pure (ForInStep.done (some false, ()))
                  else pure (ForInStep.yield (none, ()))
              else pure (ForInStep.yield ((none : Option Bool), ()))) = some (ForInStep.yield (none, ())) := by
        rw [if_neg hn]; rfl
      rw [pr_bind _ step]
      exact ih _ h
theorem eqS_sound {P : Program} : ∀ (d : Nat) (t : TypeId) (x y : Value) (r : Bool), eqS P d t x y = some r → ∀ D, d ≤ D → pureRun P (Op.equalIn D t x y) = some r := by
  intro d
  induction d with
  | zero => intro t x y r h; simp [eqS] at h
  | succ d ih =>
    intro t x y r h D hD
    obtain ⟨D', rfl⟩ : ∃ D', D = D' + 1 := ⟨D - 1, by omega⟩
    unfold eqS at h
    unfold Op.equalIn
    split at h
    · rename_i a b hu
      simp only [Option.some.injEq] at h; subst h
      rw [pr_bind _ (pr_underlying hu)]; rfl
    · rename_i k0 k a k' b hu
      rw [pr_bind _ (pr_underlying hu)]
      cases hk : decide (k = k') with
      | false => rw [hk] at h; simp at h
      | true =>
        rw [hk] at h
        simp only [cond_true, Option.some.injEq] at h; subst h
        have : k = k' := by simpa using hk
        simp only [this, if_true]
        rfl
    · rename_i a b hu
      simp only [Option.some.injEq] at h; subst h
      rw [pr_bind _ (pr_underlying hu)]; rfl
    · rename_i fields xs ys hu
      rw [pr_bind _ (pr_underlying hu)]
      cases hs : P.stoodInHeld t with
      | true => rw [hs] at h; simp at h
      | false =>
        rw [hs] at h
        simp only [cond_false] at h
        have h2 : pureRun P program = some P := rfl
        simp only []
        rw [pr_bind _ h2]
        simp only [hs, Bool.false_eq_true, if_false]
        have hf := pr_fields (P := P) (xs := xs) (ys := ys) (Op.equalIn D') (eqS P d) (fun t a b r hr => ih t a b r hr D' (by omega)) fields.toList r h
        rw [← Array.forIn_toList]
        rw [pr_bind _ hf]
        cases r <;> rfl
    · simp at h
theorem evPure_eq_agg {P : Program} {o : Oper} {op : BinOp} {t t' : TypeId} {x y : Operand} (ho : o.op = .binOp op t x y t') {a b : Array Value} (hx : ρ x = some (.agg a)) (hy : ρ y = some (.agg b)) (hfa : flat 12 (.agg a) = true) (hfb : flat 12 (.agg b) = true)
    (hg : P.eqGuardType P.depth t = false) {r : Bool} (he : eqS P 8 t (.agg a) (.agg b) = some r) :
    (op = .eql → evPure P ρ o = some (.bool r)) ∧ (op = .neq → evPure P ρ o = some (.bool (!r))) := by
  have e := evPure_eq (P := P) (ρ := ρ) (o := o) (fun a b e => by rw [ho] at e; simp at e)
  have hf : flatAll ρ o.op.operands.toList = true := by simp [ho, Op.operands, flatAll, hx, hy, hfa, hfb]
  rw [hf] at e
  have hq : pureRun P (Op.equal t (.agg a) (.agg b)) = some r := eqS_sound 8 _ _ _ _ he _ (by decide)
  have h2 : pureRun P program = some P := rfl
  constructor
  · rintro rfl
    rw [e]
    have hr : pureRun P (execOp (fun x => (ρ x).getD undef) o) = some (.value (.bool r)) := by
      unfold execOp
      rw [ho]
      simp only [hx, hy, Option.getD_some]
      have hgd : pureRun P (eqGuard .eql t x y (.agg a) (.agg b)) = some () := by
        unfold eqGuard
        simp only [Bool.not_true, Bool.false_eq_true, if_false]
        rw [pr_bind _ h2]
        try rw [pr_bind _ h2]
        simp [hg]; rfl
      have hb : pureRun P (do eqGuard .eql t x y (.agg a) (.agg b); binOp .eql t (.agg a) (.agg b)) = some (.bool r) := by
        rw [pr_bind _ hgd]
        unfold binOp
        rw [pr_bind _ hq]; rfl
      rw [pr_bind _ hb]; rfl
    rw [hr]; rfl
  · rintro rfl
    rw [e]
    have hr : pureRun P (execOp (fun x => (ρ x).getD undef) o) = some (.value (.bool (!r))) := by
      unfold execOp
      rw [ho]
      simp only [hx, hy, Option.getD_some]
      have hgd : pureRun P (eqGuard .neq t x y (.agg a) (.agg b)) = some () := by
        unfold eqGuard
        simp only [Bool.not_true, Bool.false_eq_true, if_false]
        rw [pr_bind _ h2]
        try rw [pr_bind _ h2]
        simp [hg]; rfl
      have hb : pureRun P (do eqGuard .neq t x y (.agg a) (.agg b); binOp .neq t (.agg a) (.agg b)) = some (.bool (!r)) := by
        rw [pr_bind _ hgd]
        unfold binOp
        rw [pr_bind _ hq]; rfl
      rw [pr_bind _ hb]; rfl
    rw [hr]; rfl
theorem sBin_sound (hl : RLe ρ ρ') {o : Oper} {op : BinOp} {t t' : TypeId} {x y : Operand} (ho : o.op = .binOp op t x y t') {k : Value → Prop} (h : sBin E ρ o op t x y k) : ∃ v, evBin E.P ρ' o op t x y = some v ∧ k v := by
  have lift : ∀ (f : Value → Prop), (∃ v, evBin E.P ρ o op t x y = some v ∧ k v) → ∃ v, evBin E.P ρ' o op t x y = some v ∧ k v := fun _ ⟨v, h1, h2⟩ => ⟨v, evBin_mono hl ho h1, h2⟩
  refine lift (fun _ => True) ?_
  unfold sBin at h
  unfold evBin
  have pc : (match evPure E.P ρ o with | some v => k v | none => False) → ∃ v, evPure E.P ρ o = some v ∧ k v := by
    intro h
    split at h
    · rename_i v hv; exact ⟨v, hv, h⟩
    · exact h.elim
  split at h
  · rename_i ka a kb b hx hy
    rw [hx, hy]
    simp only
    cases hk : decide (ka = kb) with
    | false => rw [hk] at h; simp only [cond_false] at h ⊢; exact sShift_sound ho hx hy h
    | true =>
      rw [hk] at h
      simp only [cond_true] at h ⊢
      have hkk : ka = kb := by simpa using hk
      subst hkk
      unfold sInt at h
      split at h
      · obtain ⟨h1, h2⟩ := need_spec h
        have hb : b ≠ 0 := by simpa using h1
        refine ⟨_, ?_, h2⟩
        simp only [ibin]
        exact (evPure_div ho hx hy hb).1 rfl
      · obtain ⟨h1, h2⟩ := need_spec h
        have hb : b ≠ 0 := by simpa using h1
        refine ⟨_, ?_, h2⟩
        simp only [ibin]
        exact (evPure_div ho hx hy hb).2 rfl
      · exact ⟨_, by simp only [ibin]; exact evPure_bits ho hx hy (fun w hw => by subst hw; simp only [binOp, ne_eq, not_true_eq_false, if_false, Op.intBits]; rfl) rfl rfl, h⟩
      · exact ⟨_, by simp only [ibin]; exact evPure_bits ho hx hy (fun w hw => by subst hw; simp only [binOp, ne_eq, not_true_eq_false, if_false, Op.intBits]; rfl) rfl rfl, h⟩
      · exact ⟨_, by simp only [ibin]; exact evPure_bits ho hx hy (fun w hw => by subst hw; simp only [binOp, ne_eq, not_true_eq_false, if_false, Op.intBits]; rfl) rfl rfl, h⟩
      · exact ⟨_, by simp only [ibin]; exact evPure_bits ho hx hy (fun w hw => by subst hw; simp only [binOp, ne_eq, not_true_eq_false, if_false, Op.intBits]; rfl) rfl rfl, h⟩
      · obtain ⟨v, h1, h2⟩ := sShift_sound (P := E.P) (op := .shl) ho hx hy (show sShift .shl ka a b k from h)
        exact ⟨v, by simp only [ibin]; exact h1, h2⟩
      · obtain ⟨v, h1, h2⟩ := sShift_sound (P := E.P) (op := .shr) ho hx hy (show sShift .shr ka a b k from h)
        exact ⟨v, by simp only [ibin]; exact h1, h2⟩
      · split at h
        · rename_i v hv; rw [hv]; exact ⟨v, rfl, h⟩
        · rename_i hv; rw [hv]; exact pc h
  · rename_i a b hx hy
    rw [hx, hy]
    simp only
    exact sStr_sound ho hx hy h
  · rename_i ka a kb b hx hy
    rw [hx, hy]
    simp only
    cases hk : decide (ka = kb) with
    | false => rw [hk] at h; exact h.elim
    | true =>
      rw [hk] at h
      simp only [cond_true] at h ⊢
      unfold sFlt at h
      split at h
      · obtain ⟨r, h1, h2⟩ := h; simp only [fA] at h1; simp only [fres, h1]; exact ⟨_, rfl, h2⟩
      · obtain ⟨r, h1, h2⟩ := h; simp only [fA] at h1; simp only [fres, h1]; exact ⟨_, rfl, h2⟩
      · obtain ⟨r, h1, h2⟩ := h; simp only [fA] at h1; simp only [fres, h1]; exact ⟨_, rfl, h2⟩
      · obtain ⟨r, h1, h2⟩ := h; simp only [fA] at h1; simp only [fres, h1]; exact ⟨_, rfl, h2⟩
      · rename_i n1 n2 n3 n4
        split at h
        · rename_i c hc
          have hr : fres op ka a b = none := by cases op <;> first | exact absurd rfl n1 | exact absurd rfl n2 | exact absurd rfl n3 | exact absurd rfl n4 | rfl
          rw [hr, hc]; exact ⟨_, rfl, h⟩
        · exact h.elim
  · rename_i a b hx hy
    rw [hx, hy]; simp only
    split at h
    · rename_i v hv; exact ⟨v, hv, h⟩
    · exact h.elim
  · rename_i a n c m d hx hy
    rw [hx, hy]; simp only
    obtain ⟨h1, h⟩ := need_spec h
    obtain ⟨n', rfl⟩ : ∃ n', n = n' + 1 := ⟨n - 1, by have : 0 < n := Nat.le_of_ble_eq_true h1; omega⟩
    split at h
    · rename_i v hv
      refine ⟨v, ?_, h⟩
      rw [← hv]; unfold aNil; cases E.P.underlying t with | none => rfl | some dd => cases dd <;> rfl
    · exact h.elim
  · rename_i n c a m d hx hy
    rw [hx, hy]; simp only
    obtain ⟨h1, h⟩ := need_spec h
    obtain ⟨n', rfl⟩ : ∃ n', m = n' + 1 := ⟨m - 1, by have : 0 < m := Nat.le_of_ble_eq_true h1; omega⟩
    split at h
    · rename_i v hv
      refine ⟨v, ?_, h⟩
      rw [← hv]; unfold aNil; cases E.P.underlying t with | none => rfl | some dd => cases dd <;> rfl
    · exact h.elim
  · rename_i a n c b m d _ _ hx hy
    rw [hx, hy]; simp only
    split at h
    · rename_i v hv; exact ⟨v, hv, h⟩
    · exact h.elim
  · rename_i hx hy
    rw [hx, hy]; simp only
    split at h
    · rename_i v hv; exact ⟨v, hv, h⟩
    · exact h.elim
  · rename_i a b hx hy
    rw [hx, hy]; simp only
    cases hg : (E.P.eqGuardType E.P.depth t || !(flat 12 (.agg a) && flat 12 (.agg b))) with
    | true => rw [hg] at h; exact h.elim
    | false =>
      rw [hg] at h
      simp only [cond_false] at h
      simp only [Bool.or_eq_false_iff, Bool.not_eq_false', Bool.and_eq_true] at hg
      split at h
      · rename_i r hr; exact ⟨_, (evPure_eq_agg ho hx hy hg.2.1 hg.2.2 hg.1 hr).1 rfl, h⟩
      · rename_i r hr; exact ⟨_, (evPure_eq_agg ho hx hy hg.2.1 hg.2.2 hg.1 hr).2 rfl, h⟩
      · exact h.elim
  · exact h.elim
  · exact h.elim
  · rename_i n1 n2 n3 n4 n5 n6 n7 n8 n9 n10
    obtain ⟨v, hv, hk⟩ := pc h
    refine ⟨v, ?_, hk⟩
    have kx := evPure_known hv x (by rw [ho]; simp [Op.operands])
    have ky := evPure_known hv y (by rw [ho]; simp [Op.operands])
    obtain ⟨a, hx⟩ := kx
    obtain ⟨b, hy⟩ := ky
    have nosl : ∀ p n c q m d, a = .slice p n c → b = .slice q m d → False := by
      intro p n c q m d ea eb
      subst ea; subst eb
      cases p <;> cases q <;> first | exact n1 hx hy | exact n1 _ _ hx hy | exact n1 _ _ _ _ hx hy | exact n1 _ _ _ _ _ _ hx hy | exact n1 _ _ _ _ _ hx hy | exact n2 hx hy | exact n2 _ _ hx hy | exact n2 _ _ _ _ hx hy | exact n2 _ _ _ _ _ _ hx hy | exact n2 _ _ _ _ _ hx hy | exact n3 hx hy | exact n3 _ _ hx hy | exact n3 _ _ _ _ hx hy | exact n3 _ _ _ _ _ _ hx hy | exact n3 _ _ _ _ _ hx hy | exact n4 hx hy | exact n4 _ _ hx hy | exact n4 _ _ _ _ hx hy | exact n4 _ _ _ _ _ _ hx hy | exact n4 _ _ _ _ _ hx hy | exact n5 hx hy | exact n5 _ _ hx hy | exact n5 _ _ _ _ hx hy | exact n5 _ _ _ _ _ _ hx hy | exact n5 _ _ _ _ _ hx hy | exact n6 hx hy | exact n6 _ _ hx hy | exact n6 _ _ _ _ hx hy | exact n6 _ _ _ _ _ _ hx hy | exact n6 _ _ _ _ _ hx hy | exact n7 hx hy | exact n7 _ _ hx hy | exact n7 _ _ _ _ hx hy | exact n7 _ _ _ _ _ _ hx hy | exact n7 _ _ _ _ _ hx hy | exact n8 hx hy | exact n8 _ _ hx hy | exact n8 _ _ _ _ hx hy | exact n8 _ _ _ _ _ _ hx hy | exact n8 _ _ _ _ _ hx hy | exact n9 hx hy | exact n9 _ _ hx hy | exact n9 _ _ _ _ hx hy | exact n9 _ _ _ _ _ _ hx hy | exact n9 _ _ _ _ _ hx hy | exact n10 hx hy | exact n10 _ _ hx hy | exact n10 _ _ _ _ hx hy | exact n10 _ _ _ _ _ _ hx hy | (simp_all; done)
    rw [hx, hy]
    split <;> first
      | exact hv
      | (rename_i e1 e2; simp only [Option.some.injEq] at e1 e2; exact (nosl _ _ _ _ _ _ e1 e2).elim)
      | (rename_i e1 e2; simp only [Option.some.injEq] at e1 e2; subst e1; subst e2; exfalso; first | exact n1 hx hy | exact n1 _ _ hx hy | exact n1 _ _ _ _ hx hy | exact n1 _ _ _ _ _ _ hx hy | exact n1 _ _ _ _ _ hx hy | exact n2 hx hy | exact n2 _ _ hx hy | exact n2 _ _ _ _ hx hy | exact n2 _ _ _ _ _ _ hx hy | exact n2 _ _ _ _ _ hx hy | exact n3 hx hy | exact n3 _ _ hx hy | exact n3 _ _ _ _ hx hy | exact n3 _ _ _ _ _ _ hx hy | exact n3 _ _ _ _ _ hx hy | exact n4 hx hy | exact n4 _ _ hx hy | exact n4 _ _ _ _ hx hy | exact n4 _ _ _ _ _ _ hx hy | exact n4 _ _ _ _ _ hx hy | exact n5 hx hy | exact n5 _ _ hx hy | exact n5 _ _ _ _ hx hy | exact n5 _ _ _ _ _ _ hx hy | exact n5 _ _ _ _ _ hx hy | exact n6 hx hy | exact n6 _ _ hx hy | exact n6 _ _ _ _ hx hy | exact n6 _ _ _ _ _ _ hx hy | exact n6 _ _ _ _ _ hx hy | exact n7 hx hy | exact n7 _ _ hx hy | exact n7 _ _ _ _ hx hy | exact n7 _ _ _ _ _ _ hx hy | exact n7 _ _ _ _ _ hx hy | exact n8 hx hy | exact n8 _ _ hx hy | exact n8 _ _ _ _ hx hy | exact n8 _ _ _ _ _ _ hx hy | exact n8 _ _ _ _ _ hx hy | exact n9 hx hy | exact n9 _ _ hx hy | exact n9 _ _ _ _ hx hy | exact n9 _ _ _ _ _ _ hx hy | exact n9 _ _ _ _ _ hx hy | exact n10 hx hy | exact n10 _ _ hx hy | exact n10 _ _ _ _ hx hy | exact n10 _ _ _ _ _ _ hx hy | (simp_all; done))
theorem not_nan_toInt {k : FloatKind} {b : Nat} {n : Int} (h : fToI k b = some n) : isNan k b = false := by
  unfold fToI FloatKind.decode Ieee.Datum.toInt at h
  unfold isNan
  cases hd : k.format.read b with
  | nan => rw [hd] at h; simp [Ieee.Datum.integral] at h
  | number => rfl
  | infinity => rfl
theorem not_nan_nearest (k : FloatKind) (n : Int) : isNan k (k.nearest n) = false := by
  have key : ∀ (f : Ieee.Format), f = Ieee.single ∨ f = Ieee.double → ∀ (neg : Bool) (r : Nat), r ≤ f.infRung → (match f.read (f.word neg r) with | .nan _ _ => true | _ => false) = false := by
    intro f hf neg r hr
    have h1 : f.infRung < f.signWeight := by rcases hf with rfl | rfl <;> decide
    have h2 : (f.word neg r) % f.signWeight = r := by
      unfold Ieee.Format.word
      cases neg
      · show r % f.signWeight = r; exact Nat.mod_eq_of_lt (by omega)
      · simp only [if_true]; rw [Nat.add_mod_left]; exact Nat.mod_eq_of_lt (by omega)
    unfold Ieee.Format.read
    rw [h2]
    by_cases h3 : r < f.binade
    · simp only [if_pos h3]
    · by_cases h4 : r < f.infRung
      · simp only [if_neg h3, if_pos h4]
      · have h5 : r = f.infRung := by omega
        simp only [if_neg h3, if_neg h4, if_pos h5]
  have hf : k.format = Ieee.single ∨ k.format = Ieee.double := by cases k; exact .inl rfl; exact .inr rfl
  show (match k.format.read (k.format.nearest (n < 0) n.natAbs 0) with | .nan _ _ => true | _ => false) = false
  unfold Ieee.Format.nearest
  by_cases h0 : n.natAbs = 0
  · rw [if_pos h0]; exact key _ hf _ _ (Nat.zero_le _)
  · rw [if_neg h0]; exact key _ hf _ _ (Nat.min_le_right _ _)
theorem sConv_sound (hl : RLe ρ ρ') {rows : Tr Row} {o : Oper} {src dst : TypeId} {x : Operand} (ho : o.op = .convert src dst x) {k : Value → Prop} (h : sConv E ρ rows o src dst x k) : ∃ v, evConv E.P ρ' rows o src dst x = some v ∧ k v := by
  have fin : ∀ (v0 v : Value), ρ x = some v0 → flat 12 v0 = true → flat 12 v = true → pureRun E.P (convert src dst v0) = some v → evPure E.P ρ o = some v := by
    intro v0 v hx hf0 hfv hr
    have e := evPure_eq (P := E.P) (ρ := ρ) (o := o) (fun a b e => by rw [ho] at e; simp at e)
    have hf : flatAll ρ o.op.operands.toList = true := by simp [ho, Op.operands, flatAll, hx, hf0]
    rw [hf] at e
    have e2 : pureRun E.P (execOp (fun x => (ρ x).getD undef) o) = some (.value v) := by
      simp only [execOp, ho, hx, Option.getD_some]
      exact pr_bind' (convert src dst v0) hr
    rw [e, e2]
    simp only [cond_true, hfv]
  have base : ∃ v, evConv E.P ρ rows o src dst x = some v ∧ k v := by
    unfold sConv at h
    unfold evConv
    split at h
    · rename_i kk n hx
      rw [hx]; simp only
      split at h
      · rename_i h1 h2; rw [h1, h2]; exact ⟨_, rfl, h⟩
      · rename_i k0 k' h1 h2
        refine ⟨_, ?_, h⟩
        have hv : evPure E.P ρ o = some (.float k' (k'.nearest n)) := by
          refine fin _ _ hx rfl (by simp [flat, not_nan_nearest]) ?_
          unfold convert
          rw [pr_bind _ (pr_underlying h1), pr_bind _ (pr_underlying h2)]; rfl
        rw [h1, h2]; exact hv
      · rename_i hne _
        split at h
        · rename_i v hv
          refine ⟨v, ?_, h⟩
          split
          · rename_i h1 h2; exact absurd h2 (hne _ _ h1)
          · exact hv
        · exact h.elim
    · rename_i s b hx
      rw [hx]; simp only
      split at h
      · rename_i s0 k' h1 h2
        obtain ⟨n, q1, q2, q3⟩ := h
        refine ⟨_, fin _ _ hx (by simp [flat, not_nan_toInt q1]) rfl ?_, q3⟩
        unfold convert
        rw [pr_bind _ (pr_underlying h1), pr_bind _ (pr_underlying h2)]
        unfold fToI at q1
        simp only [Conv.floatToInt, q1, q2, and_self, if_true]; rfl
      · split at h
        · rename_i v hv; exact ⟨v, hv, h⟩
        · exact h.elim
    · rename_i a n c hx
      rw [hx]; simp only
      exact sText_sound E h
    · rename_i n1 n2 n3
      split at h
      · rename_i v hv
        refine ⟨v, ?_, h⟩
        split
        · rename_i hx; exact absurd hx (n1 _ _)
        · rename_i hx; exact absurd hx (n3 _ _ _)
        · exact hv
      · exact h.elim
  obtain ⟨v, h1, h2⟩ := base
  exact ⟨v, evConv_mono hl ho h1, h2⟩
theorem symCell_or {l : List Value} {z v : Value} {et : TypeId} (h : symCell l 0 (elSz0 E.P et) z = some v) (hl : l = []) (hz : nilSl z = true) : v = nilG E.P et true z := by
  subst hl
  unfold nilSl at hz
  split at hz
  · simp only [symCell, Option.some.injEq] at h
    subst h; rfl
  · simp at hz
theorem sLookup_sound {rows : Tr Row} {t : TypeId} {m key : Value} {ok : Bool} {k : Value → Prop} (h : sLookup E rows t m key ok k) : ∃ v, aLookup E.P rows t m key ok = some v ∧ k v := by
  unfold sLookup at h
  split at h
  · rename_i r
    split at h
    · rename_i C ro hr
      split at h
      · rename_i kt et ht
        obtain ⟨hk, h⟩ := need_spec h
        split at h
        · rename_i z hz
          split at h
          · rename_i v hv
            obtain ⟨d, hd⟩ := keyOk_und hk
            have key1 : MKeys C key → (∃ x, mpOne C key = [x] ∧ mpHas C key = true ∧ aLookup E.P rows t (.map (some r)) key ok = some (bif ok then .tuple #[x, .bool true] else x)) ∨ (mpOne C key = [] ∧ mpHas C key = false ∧ aLookup E.P rows t (.map (some r)) key ok = some (bif ok then .tuple #[z, .bool false] else nilG E.P et true z)) := by
              intro hm
              rw [MKeys_eq] at hm
              rw [mpOne_eq, mpHas_eq]
              obtain ⟨es, e1, e2, e3, e4⟩ := mPos_spec hk hd C 0 hm
              have hs : symM rows (.map (some r)) = true := by simp only [symM, hr]
              unfold mpOne0 mpHas0
              cases hp : mPos0 C key with
              | some j =>
                rw [hp] at e4
                obtain ⟨e, g1, g2, g3, g4, g5⟩ := e4
                have hf := findKey_ok (P := E.P) hd g5
                left
                refine ⟨e.val, ?_, rfl, ?_⟩
                · obtain ⟨hlt, ge⟩ := List.getElem?_eq_some_iff.1 g3
                  simp only
                  rw [List.drop_eq_getElem_cons hlt, List.take_succ_cons, List.take_zero, ge]
                · simp only [aLookup, ht, ents, hr, e1, keyOk_flat hk, e2, Bool.and_self, cond_true, checkKey_ok hk, hf]
              | none =>
                rw [hp] at e4
                have hf := findKey_ok (P := E.P) hd e4
                right
                refine ⟨rfl, rfl, ?_⟩
                simp only [aLookup, ht, ents, hr, e1, keyOk_flat hk, e2, Bool.and_self, cond_true, checkKey_ok hk, hf, hz, hs]
            split at h
            · rename_i hb
              obtain ⟨hm, ho, h9⟩ := h
              simp only [Bool.and_eq_true, Bool.not_eq_true'] at hb
              obtain ⟨hb1, rfl⟩ := hb
              rcases key1 hm with ⟨x, x1, x2, x3⟩ | ⟨x1, x2, x3⟩
              · rw [x1] at ho
                have := ho x rfl
                subst this
                exact ⟨_, x3, h9⟩
              · have hv2 := symCell_or E hv x1 hb1
                refine ⟨_, x3, ?_⟩
                simp only [cond_false]
                rw [← hv2]; exact h9
            · rename_i hb
              obtain ⟨hm, h⟩ := h
              rcases key1 hm with ⟨x, x1, x2, x3⟩ | ⟨x1, x2, x3⟩
              · rw [x2] at h
                obtain ⟨ho, h⟩ := h
                rw [x1] at ho
                have := ho x rfl
                subst this
                exact ⟨_, x3, h⟩
              · rw [x2] at h
                refine ⟨_, x3, ?_⟩
                have h : k (bif ok then .tuple #[z, .bool false] else z) := h
                cases ok with
                | true => exact h
                | false =>
                  simp only [cond_false] at h ⊢
                  have hn : nilSl z = false := by simpa using hb
                  have : nilG E.P et true z = z := by
                    unfold nilG
                    split
                    · simp [nilSl] at hn
                    · rfl
                  rw [this]; exact h
          · exact h.elim
        · exact h.elim
      · exact h.elim
    · split at h
      · rename_i v hv; exact ⟨v, hv, h⟩
      · exact h.elim
  · split at h
    · rename_i v hv; exact ⟨v, hv, h⟩
    · exact h.elim
theorem sQ_sound (hl : RLe ρ ρ') {rows : Tr Row} {o : Oper} {k : Value → Prop} (h : sQ E ρ rows o k) : ∃ v, evQ E.P ρ' rows o = some v ∧ k v := by
  have fld : ∀ (x : Operand) (f : Value → Option Value), (match ρ x with | some v => (match f v with | some v => k v | none => False) | none => False) → ∃ v, (match ρ' x with | some v => f v | none => none) = some v ∧ k v := by
    intro x f h
    split at h
    · rename_i v hv
      rw [hl _ _ hv]
      split at h
      · rename_i r hr; exact ⟨r, hr, h⟩
      · exact h.elim
    · exact h.elim
  unfold sQ at h
  unfold evQ
  split at h
  · rename_i x e; rw [e]
    split at h
    · rename_i v hv; exact ⟨v, hl _ _ hv, h⟩
    · exact h.elim
  · rename_i x e; rw [e]
    split at h
    · rename_i v hv; exact ⟨v, hl _ _ hv, h⟩
    · exact h.elim
  · rename_i c a b e; rw [e]
    split at h
    · rename_i b0 hc
      simp only [hl _ _ hc]
      split at h
      · rename_i x y hx hy
        cases b0
        · exact ⟨_, hl _ _ hy, h⟩
        · exact ⟨_, hl _ _ hx, h⟩
      · rename_i x y _ hx hy
        rcases br_spec h with ⟨rfl, h⟩ | ⟨rfl, h⟩
        · exact ⟨_, hl _ _ hx, h⟩
        · exact ⟨_, hl _ _ hy, h⟩
      · rename_i x hx hy
        obtain ⟨rfl, h⟩ := need_spec h
        exact ⟨_, hl _ _ hx, h⟩
      · rename_i y hx hy
        obtain ⟨h1, h⟩ := need_spec h
        simp at h1; subst h1
        exact ⟨_, hl _ _ hy, h⟩
      · exact h.elim
    · exact h.elim
  · rename_i t a e; rw [e]
    split at h
    · rename_i v hv
      simp only [hl _ _ hv]
      exact sLoad_sound E h
    · exact h.elim
  · rename_i x e; rw [e]
    split at h
    · rename_i a hv; simp only [hl _ _ hv]; exact ⟨_, rfl, h⟩
    · rename_i f c d hv; simp only [hl _ _ hv]; exact ⟨_, rfl, h⟩
    · exact h.elim
  · rename_i op t x y t' e; rw [e]; exact sBin_sound E hl e h
  · rename_i t x e; rw [e]
    split at h
    · rename_i v hv
      simp only [hl _ _ hv]
      cases hc : E.P.concrete t with
      | false => rw [hc] at h; exact h.elim
      | true => rw [hc] at h; exact ⟨_, rfl, h⟩
    · exact h.elim
  · rename_i t x f e; rw [e]; exact fld x _ h
  · rename_i t x f e; rw [e]; exact fld x _ h
  · rename_i t x i e; rw [e]
    split at h
    · rename_i v j hv hj; simp only [hl _ _ hv, hl _ _ hj]; exact sIndexAddr_sound E h
    · exact h.elim
  · rename_i t x i e; rw [e]
    split at h
    · rename_i v j hv hj; simp only [hl _ _ hv, hl _ _ hj]; exact sIndex_sound E h
    · exact h.elim
  · rename_i t x lo hi e; rw [e]
    split at h
    · rename_i p l m hv h1 h2
      simp only [hl _ _ hv, opt_mono hl h1, opt_mono hl h2]
      split at h
      · rename_i v hv2; exact ⟨v, hv2, h⟩
      · exact h.elim
    · rename_i v l m _ hv h1 h2
      simp only [hl _ _ hv, opt_mono hl h1, opt_mono hl h2]
      obtain ⟨np, r⟩ := sSlice_sound E h
      cases v with
      | pointer p => exact absurd rfl (np p)
      | _ => exact r
    · exact h.elim
  · rename_i x i e; rw [e]; exact fld x _ h
  · rename_i t ps e; rw [e]
    split at h
    · rename_i v hv; exact ⟨v, aBuild_mono hl hv, h⟩
    · exact h.elim
  · rename_i src dst x e; rw [e]; exact sConv_sound E hl e h
  · rename_i c e; rw [e]
    obtain ⟨cl, as, ts⟩ := c
    split at h
    · rename_i hc; cases hc
      split at h
      · rename_i v hv; exact ⟨v, by simp only [evLen_mono hl hv], h⟩
      · split at h
        · rename_i v hv
          obtain ⟨m1, m2⟩ := evLenM_mono hl hv
          exact ⟨v, by simp only [m1, m2], h⟩
        · exact h.elim
    · rename_i hne
      split at h
      · rename_i v hv
        refine ⟨v, ?_, h⟩
        cases cl <;> first | exact evPure_mono hl hv | skip
        rename_i b
        cases b <;> first | exact evPure_mono hl hv | exact absurd rfl hne
      · exact h.elim
  · rename_i fn first cap e; rw [e]
    split at h
    · rename_i a b ha hb; simp only [aArgs_mono hl _ _ ha, aArgs_mono hl _ _ hb]; exact ⟨_, rfl, h⟩
    · exact h.elim
  · rename_i e; rw [e]; exact pure_case hl h
  · rename_i e; rw [e]; exact pure_case hl h
  · rename_i t m key ok e; rw [e]
    split at h
    · rename_i mv kv hm hk
      simp only [hl _ _ hm, hl _ _ hk]
      exact sLookup_sound E h
    · exact h.elim
  · exact h.elim
end
end
end Go.Sy
namespace Go.Sy
noncomputable section
open Go.Ev Go.RowKit
def Sub (ov tm : Tr Value) : Prop := ∀ i v, ov.find i = some v → tm.find i = some v
theorem Sub.refl (t : Tr Value) : Sub t t := fun _ _ h => h
theorem kv_le {ov tm : Tr Value} (h : Sub ov tm) : RLe (kv ov) (opV tm) := by
  intro x v hx
  cases x with
  | tmp t => simp only [kv] at hx; simp only [opV, h _ _ hx]
  | const c => exact hx
  | func f => exact hx
  | global g => simp [kv] at hx
theorem Sub.put {ov tm : Tr Value} (h : Sub ov tm) {d : Nat} (hd : d < Tr.top) (v : Value) : Sub (ov.put d (some v)) (tm.put d (some v)) := by
  intro i w hw
  rw [Tr.find_put _ _ _ _ hd] at hw ⊢
  split at hw
  · rename_i e; rw [if_pos e]; exact hw
  · rename_i e; rw [if_neg e]; exact h _ _ hw
theorem Sub.lit {ov tm : Tr Value} (h : Sub ov tm) {d : Nat} (hd : d < Tr.top) {v : Value} (hv : tm.find d = some v) : Sub (ov.put d (some v)) tm := by
  intro i w hw
  rw [Tr.find_put _ _ _ _ hd] at hw
  split at hw
  · rename_i e; rw [e, hv]; exact hw
  · exact h _ _ hw
section
variable (E : Env)
theorem sPut_sound {fr : Fr} {dst : Option Tmp} {v : Value} {k : Fr → Prop} (h : sPut fr dst v k) {tm : Tr Value} (hs : Sub fr.tm tm) :
    ∃ ov tm', putFr ⟨tm, fr.nt, fr.df⟩ dst v some = some ⟨tm', fr.nt, fr.df⟩ ∧ Sub ov tm' ∧ k ⟨ov, fr.nt, fr.df⟩ := by
  rw [sPut_proj] at h
  rw [putFr_proj]
  cases dst with
  | none => exact ⟨fr.tm, tm, rfl, hs, h⟩
  | some d =>
    simp only at h ⊢
    cases hb : (Nat.blt d fr.nt && Nat.blt d Tr.top) with
    | false => rw [hb] at h; exact h.elim
    | true =>
      rw [hb] at h
      simp only [cond_true] at h ⊢
      rw [Tr.putK_eq] at h ⊢
      simp only [Bool.and_eq_true] at hb
      exact ⟨_, _, rfl, hs.put (Nat.le_of_ble_eq_true hb.2) v, h⟩
theorem sLit_sound {fr : Fr} {x : Operand} {b : Bool} {k : Fr → Prop} (h : sLit fr x b k) {tm : Tr Value} (hs : Sub fr.tm tm) (hx : kv fr.tm x = some (.bool b)) :
    ∃ ov, Sub ov tm ∧ k ⟨ov, fr.nt, fr.df⟩ := by
  unfold sLit at h
  split at h
  · rename_i d
    cases hb : Nat.blt d Tr.top with
    | false => rw [hb] at h; exact ⟨fr.tm, hs, h⟩
    | true =>
      rw [hb] at h
      simp only [cond_true] at h
      rw [Tr.putK_eq] at h
      exact ⟨_, hs.lit (Nat.le_of_ble_eq_true hb) (hs _ _ hx), h⟩
  · exact ⟨fr.tm, hs, h⟩
theorem sWant_sound {ops : Array Oper} {o : Oper} {fr : Fr} {k : Fr → Bool → Prop} (h : sWant ops o fr k) {tm : Tr Value} (hs : Sub fr.tm tm) :
    ∃ ov, Sub ov tm ∧ k ⟨ov, fr.nt, fr.df⟩ (wantB tm ops o) := by
  unfold sWant at h
  unfold wantB
  split at h
  · rename_i e; rw [e]; exact ⟨fr.tm, hs, h⟩
  · rename_i j want e
    rw [e]
    unfold yb
    simp only
    split at h
    · rename_i oj hj
      rw [hj]; simp only
      split at h
      · rename_i d hd
        rw [hd]; simp only
        split at h
        · rename_i b hb
          rw [hs _ _ hb]; simp only
          rcases br_spec h with ⟨rfl, hh⟩ | ⟨rfl, hh⟩
          · obtain ⟨ov, h1, h2⟩ := sLit_sound hh hs hb
            refine ⟨ov, h1, ?_⟩
            cases want <;> exact h2
          · obtain ⟨ov, h1, h2⟩ := sLit_sound hh hs hb
            refine ⟨ov, h1, ?_⟩
            cases want <;> exact h2
        · rename_i v hne hv
          rw [hs _ _ hv]
          refine ⟨fr.tm, hs, ?_⟩
          cases v <;> first | exact h | exact absurd rfl (hne _)
        · exact h.elim
      · rename_i hd; rw [hd]; exact ⟨fr.tm, hs, h⟩
    · rename_i hj; rw [hj]; exact ⟨fr.tm, hs, h⟩
theorem aAppend_mono {P : Program} {ρ ρ' : Operand → Option Value} (hl : RLe ρ ρ') {h : Hp} {c : Call} {v : Value × Hp} (he : aAppend P h c ρ = some v) : aAppend P h c ρ' = some v := by
  unfold aAppend at he ⊢
  split at he
  · rename_i s x sT xT e1 e2
    cases hs : ρ s with
    | none => rw [hs] at he; cases h1 : P.underlying sT <;> cases h2 : P.underlying xT <;> simp [h1, h2] at he
    | some a =>
      cases hx : ρ x with
      | none => rw [hs, hx] at he; cases h1 : P.underlying sT <;> cases h2 : P.underlying xT <;> simp [h1, h2] at he
      | some b => rw [hs, hx] at he; rw [hl _ _ hs, hl _ _ hx]; exact he
  · simp at he
theorem aCopy_mono {P : Program} {ρ ρ' : Operand → Option Value} (hl : RLe ρ ρ') {h : Hp} {c : Call} {v : Value × Hp} (he : aCopy P h c ρ = some v) : aCopy P h c ρ' = some v := by
  unfold aCopy at he ⊢
  split at he
  · rename_i s x sT xT e1 e2
    cases hs : ρ s with
    | none => rw [hs] at he; cases h1 : P.underlying sT <;> simp [h1] at he
    | some a =>
      cases hx : ρ x with
      | none => rw [hs, hx] at he; cases h1 : P.underlying sT <;> simp [h1] at he
      | some b => rw [hs, hx] at he; rw [hl _ _ hs, hl _ _ hx]; exact he
  · simp at he
theorem sPutCells_sound {rows : Tr Row} {r i : Nat} {vs : List Value} {k : Tr Row → Prop} (h : sPutCells E rows r i vs k) : ∃ t, putCells rows r i vs = some t ∧ k t := by
  unfold sPutCells at h
  simp only [litC_eq] at h
  split at h
  · rename_i cells hr
    obtain ⟨h1, h⟩ := need_spec h
    obtain ⟨h2, h⟩ := need_spec h
    obtain ⟨h3, h⟩ := need_spec h
    simp only [decide_eq_true_eq] at h1
    refine ⟨_, ?_, h⟩
    have : Nat.ble (i + vs.length) cells.length = true := Nat.ble_eq_true_of_le h1
    simp only [putCells, hr, this, h2, h3, Bool.and_self, cond_true]
    rw [wrK_eq _ _ _ _ h1]
  · split at h
    · rename_i t ht; exact ⟨t, ht, h⟩
    · exact h.elim
  · exact h.elim
theorem cut_of {l : List Value} {k n : Nat} (h : k + n ≤ l.length) : cut l k n = some ((l.drop k).take n) := by
  unfold cut
  have : ((l.drop k).take n).length = n := by simp; omega
  simp only [this]; simp
theorem sSrc_sound {rows : Tr Row} {m : Nat} {x : Value} {k : Nat → List Value → Bool → Prop} (h : sSrc rows m x k) : ∃ len l s, srcCells rows m x = some (len, l, s) ∧ k len l s := by
  unfold sSrc at h
  split at h
  · exact ⟨_, _, _, rfl, h⟩
  · rename_i r i len e
    split at h
    · rename_i cells ro hr
      obtain ⟨h1, h2⟩ := need_spec h
      simp only [decide_eq_true_eq] at h1
      refine ⟨_, _, _, ?_, h2⟩
      simp only [srcCells, hr, cut_of h1]
    · split at h
      · rename_i len l s hs; exact ⟨_, _, _, hs, h⟩
      · exact h.elim
    · exact h.elim
  · obtain ⟨h1, h2⟩ := need_spec h
    simp only [decide_eq_true_eq] at h1
    refine ⟨_, _, _, ?_, h2⟩
    simp only [srcCells, cut_of h1]
  · obtain ⟨h1, h2⟩ := need_spec h
    refine ⟨_, _, _, ?_, h2⟩
    simp only [srcCells, h1, cond_true]
  · exact h.elim
theorem sApp_sound {h : Hp} {m len : Nat} {new : List Value} {sy : Bool} {sv : Value} {k : Value → Hp → Prop} (ha : sApp E h m len new sy sv k) : ∃ v h', appCore h m len new sy sv = some (v, h') ∧ k v h' := by
  unfold sApp at ha
  simp only [litC_eq] at ha
  split at ha
  · split at ha
    · obtain ⟨h1, h2⟩ := need_spec ha
      simp only [decide_eq_true_eq] at h1
      refine ⟨_, _, ?_, h2⟩
      have : Nat.ble len 16777216 = true := Nat.ble_eq_true_of_le h1
      simp only [appCore, this, cond_true]
    · split at ha
      · rename_i v h' hv; exact ⟨_, _, hv, ha⟩
      · exact ha.elim
  · rename_i r i sl e
    split at ha
    · rename_i cells s hr
      split at ha
      · rename_i hsy
        obtain ⟨h1, ha⟩ := need_spec ha
        obtain ⟨h2, ha⟩ := need_spec ha
        simp only [decide_eq_true_eq] at h1
        simp only [Bool.and_eq_true] at h2
        have b1 : Nat.ble (sl + len) 16777216 = true := Nat.ble_eq_true_of_le h1
        have ha : br (decide (0 < sl + len ∨ cells.length = 0)) (need (decide (i + sl * m ≤ cells.length))
          (k (.slice (some ⟨h.next, 0, none⟩) (sl + len) m) ⟨(h.rows.put r none).put h.next (some ⟨(cells.drop i).take (sl * m) ++ new, false, .cells true⟩), h.next + 1⟩)) (k (.slice (some ⟨r, i, none⟩) sl e) h) := by
          cases hc : (bif s then false else cells.isEmpty || Nat.blt 0 sl) with
          | false => rw [hc] at ha; exact ha
          | true =>
            rw [hc] at ha
            have hl : 0 < sl + len ∨ cells.length = 0 := by
              cases s with
              | true => simp at hc
              | false =>
                simp only [cond_false, Bool.or_eq_true] at hc
                rcases hc with h | h
                · right; cases cells with
                  | nil => rfl
                  | cons => simp at h
                · left; have : 0 < sl := Nat.le_of_ble_eq_true h; omega
            rw [decide_eq_true hl]; exact ha
        rcases br_spec ha with ⟨h3, ha⟩ | ⟨h3, ha⟩
        rotate_left
        · simp only [decide_eq_false_iff_not] at h3
          refine ⟨_, _, ?_, ha⟩
          have b2 : (Nat.blt 0 (sl + len) || Nat.beq cells.length 0) = false := by
            cases hb : Nat.blt 0 (sl + len) with
            | true => exact absurd (.inl (Nat.le_of_ble_eq_true hb)) h3
            | false =>
              cases hb2 : Nat.beq cells.length 0 with
              | true => exact absurd (.inr (Nat.eq_of_beq_eq_true hb2)) h3
              | false => rfl
          have b3 : Nat.beq (sl + len) 0 = true := by
            have : sl + len = 0 := by omega
            rw [this]; rfl
          simp only [appCore, hr, hsy, b2, b3, Bool.and_false, cond_true, cond_false]
        obtain ⟨h4, ha⟩ := need_spec ha
        simp only [decide_eq_true_eq] at h3 h4
        refine ⟨_, _, ?_, ha⟩
        have b2 : (Nat.blt 0 (sl + len) || Nat.beq cells.length 0) = true := by
          rcases h3 with h3 | h3
          · have : Nat.blt 0 (sl + len) = true := Nat.ble_eq_true_of_le h3
            rw [this]; rfl
          · rw [h3]; simp
        simp only [appCore, hr, hsy, b1, b2, h2.1, h2.2, Bool.and_self, cond_true, cut_of h4]
      · split at ha
        · rename_i v h' hv; exact ⟨_, _, hv, ha⟩
        · exact ha.elim
    · exact ha.elim
  · exact ha.elim
theorem sFrz1_sound {rows : Tr Row} {t : TypeId} {v : Value} {k : Value → Tr Row → Prop} (h : sFrz1 E rows t v k) : ∃ v' rows', frz1 E.P rows t v = some (v', rows') ∧ k v' rows' := by
  unfold sFrz1 at h
  split at h
  · split at h
    · rename_i cells sy hr
      obtain ⟨h1, h⟩ := need_spec h
      obtain ⟨h2, h3, h4⟩ := need_spec h
      simp only [decide_eq_true_eq] at h1
      refine ⟨_, _, ?_, h4⟩
      simp only [frz1, hr, h2, h3, show Nat.ble _ _ = true from Nat.ble_eq_true_of_le h1, Bool.and_self, cond_true]
    · exact h.elim
  · split at h
    · rename_i v' rows' hf; exact ⟨v', rows', hf, h⟩
    · exact h.elim
theorem sFrzs_sound : ∀ (ts : List TypeId) (vs : List Value) (rows : Tr Row) (k : List Value → Tr Row → Prop), sFrzs E ts vs rows k → ∃ vs' rows', frzs E.P ts vs rows = some (vs', rows') ∧ k vs' rows' := by
  intro ts
  induction ts with
  | nil =>
    intro vs rows k h
    cases vs with
    | nil => exact ⟨_, _, rfl, h⟩
    | cons => exact h.elim
  | cons t ts ih =>
    intro vs rows k h
    cases vs with
    | nil => exact h.elim
    | cons v vs =>
      obtain ⟨v', rows1, h1, h2⟩ := sFrz1_sound E h
      obtain ⟨vs', rows2, h3, h4⟩ := ih _ _ _ h2
      exact ⟨_, _, by simp only [frzs, h1, h3], h4⟩
theorem sFrz_sound {rows : Tr Row} {trig : Bool} {ts : List TypeId} {vs : List Value} {k : List Value → Tr Row → Prop} (h : sFrz E rows trig ts vs k) : ∃ vs' rows', aFrz E.P rows trig ts vs = some (vs', rows') ∧ k vs' rows' := by
  unfold sFrz at h
  unfold aFrz
  split at h
  · rename_i e; rw [e]; exact sFrzs_sound E _ _ _ _ h
  · rename_i e; rw [e]; exact ⟨_, _, rfl, h⟩
theorem sFrzRow_sound {rows : Tr Row} {sy : Bool} {elem : TypeId} {sv : Value} {k : Tr Row → Prop} (h : sFrzRow E rows sy elem sv k) : ∃ rows', aFrzRow E.P rows sy elem sv = some rows' ∧ k rows' := by
  unfold sFrzRow at h
  split at h
  · exact ⟨rows, by unfold aFrzRow; rfl, h⟩
  · split at h
    · rename_i r i sl e
      split at h
      · rename_i cells hr
        split at h
        · rename_i hc
          obtain ⟨c1, rows1, h1, h2⟩ := sFrzs_sound E _ _ _ _ h
          split at h2
          · rename_i c0 hr1
            obtain ⟨h3, h4⟩ := need_spec h2
            exact ⟨_, by unfold aFrzRow; simp only [hr, hc, cond_true, h1, hr1, h3], h4⟩
          · exact h2.elim
        · rename_i hc
          exact ⟨rows, by unfold aFrzRow; simp only [hr, hc, cond_false], h⟩
      · rename_i hne
        refine ⟨rows, ?_, h⟩
        unfold aFrzRow
        simp only
    · rename_i hne
      refine ⟨rows, ?_, h⟩
      unfold aFrzRow
      split
      · exact absurd rfl (hne _ _ _ _)
      · rfl
theorem sAppend_sound {ρ ρ' : Operand → Option Value} (hl : RLe ρ ρ') {h : Hp} {c : Call} {k : Value → Hp → Prop} (ha : sAppend E h c ρ k) : ∃ v h', aAppend E.P h c ρ' = some (v, h') ∧ k v h' := by
  have base : ∃ v h', aAppend E.P h c ρ = some (v, h') ∧ k v h' := by
    unfold sAppend at ha
    split at ha
    · rename_i s x sT xT e1 e2
      split at ha
      · rename_i elem xd sv xv hd hxd hs hx
        have fin : ∀ (m : Nat) (z : Value) (i : TypeInfo), (sSrc h.rows m xv fun len new0 sy =>
            sFrz E h.rows (!sy && goesTo h.rows sv) (tsOf E.P elem len) new0 fun new rows1 =>
            sFrzRow E rows1 sy elem sv fun rows2 =>
            need (Nat.beq z.cells.toList.length m && !Nat.beq m 0 && Nat.ble i.bytes 1048576 && Nat.blt h.next Tr.top) (need (allOne new) (sApp E ⟨rows2, h.next⟩ m len new sy sv k))) →
            ∃ v h', (match srcCells h.rows m xv with
              | some (len, new0, sy) =>
                match aFrz E.P h.rows (!sy && goesTo h.rows sv) (tsOf E.P elem len) new0 with
                | some (new, rows1) =>
                  match aFrzRow E.P rows1 sy elem sv with
                  | some rows2 => bif Nat.beq z.cells.toList.length m && !Nat.beq m 0 && Nat.ble i.bytes 1048576 && allOne new && Nat.blt h.next Tr.top then appCore ⟨rows2, h.next⟩ m len new sy sv else none
                  | none => none
                | none => none
              | none => none) = some (v, h') ∧ k v h' := by
          intro m z i hb
          obtain ⟨len, l, s, h1, h2⟩ := sSrc_sound hb
          obtain ⟨new, rows1, h7, h2⟩ := sFrz_sound E h2
          obtain ⟨rows2, h8, h2⟩ := sFrzRow_sound E h2
          obtain ⟨h3, h2⟩ := need_spec h2
          obtain ⟨h4, h2⟩ := need_spec h2
          obtain ⟨v, h', h5, h6⟩ := sApp_sound E h2
          simp only [Bool.and_eq_true] at h3
          refine ⟨v, h', ?_, h6⟩
          rw [h1]
          simp only [h7, h8]
          simp only [h3.1.1.1, h3.1.1.2, h3.1.2, h3.2, h4, Bool.and_self, cond_true, h5]
        split at ha
        · rename_i m z i tt hm hz hi
          obtain ⟨v, h', h1, h2⟩ := fin m z i ha
          refine ⟨v, h', ?_, h2⟩
          unfold aAppend
          simp only [e1, e2, hd, hxd, hs, hx, hm, hz, hi]
          exact h1
        · rename_i m z i hm hz hi
          obtain ⟨v, h', h1, h2⟩ := fin m z i ha
          refine ⟨v, h', ?_, h2⟩
          unfold aAppend
          simp only [e1, e2, hd, hxd, hs, hx, hm, hz, hi]
          exact h1
        · split at ha
          · rename_i v h' hv; exact ⟨_, _, hv, ha⟩
          · exact ha.elim
      · exact ha.elim
    · exact ha.elim
  obtain ⟨v, h', h1, h2⟩ := base
  exact ⟨v, h', aAppend_mono hl h1, h2⟩
theorem sCopy_sound {ρ ρ' : Operand → Option Value} (hl : RLe ρ ρ') {h : Hp} {c : Call} {k : Value → Hp → Prop} (ha : sCopy E h c ρ k) : ∃ v h', aCopy E.P h c ρ' = some (v, h') ∧ k v h' := by
  have base : ∃ v h', aCopy E.P h c ρ = some (v, h') ∧ k v h' := by
    unfold sCopy at ha
    split at ha
    · rename_i d x dT xT e1 e2
      split at ha
      · rename_i elem r i dl e xv hd hdv hx
        split at ha
        · rename_i m hm
          obtain ⟨len, l, s, h1, h2⟩ := sSrc_sound ha
          obtain ⟨h3, h2⟩ := need_spec h2
          obtain ⟨t, h4, h5⟩ := sPutCells_sound E h2
          refine ⟨_, _, ?_, h5⟩
          unfold aCopy
          simp only [e1, e2, hd, hdv, hx, hm, h1, h3, cond_true, h4]
        · exact ha.elim
      · exact ha.elim
    · exact ha.elim
  obtain ⟨v, h', h1, h2⟩ := base
  exact ⟨v, h', aCopy_mono hl h1, h2⟩
theorem sMake_sound {h : Hp} {sy : Bool} {t : TypeId} {l c : Value} {k : Value → Hp → Prop} (ha : sMake E h sy t l c k) : ∃ v h', aMake E.P h sy t l c = some (v, h') ∧ k v h' := by
  unfold sMake at ha
  simp only [litC_eq] at ha
  split at ha
  · split at ha
    · rename_i v h' hv; exact ⟨_, _, hv, ha⟩
    · exact ha.elim
  · split at ha
    · rename_i elem kl zl kc zc hd
      split at ha
      · rename_i m z i hm hz hi
        obtain ⟨h1, ha⟩ := need_spec ha
        obtain ⟨h2, ha⟩ := need_spec ha
        simp only [decide_eq_true_eq] at h2
        simp only [Bool.and_eq_true] at h1
        obtain ⟨n, rfl⟩ : ∃ n : Nat, zl = .ofNat n := ⟨zl.toNat, by have : (zl.toNat : Int) = zl := Int.toNat_of_nonneg h2.1; exact this.symm⟩
        obtain ⟨p, rfl⟩ : ∃ p : Nat, zc = .ofNat p := ⟨zc.toNat, by have : (zc.toNat : Int) = zc := Int.toNat_of_nonneg (by omega); exact this.symm⟩
        have c1 : Nat.ble n p = true := Nat.ble_eq_true_of_le (by have h := h2.2.1; have e1 : (Int.ofNat n) = (n : Int) := rfl; have e2 : (Int.ofNat p) = (p : Int) := rfl; rw [e1, e2] at h; omega)
        have c2 : Nat.ble p 16777216 = true := Nat.ble_eq_true_of_le (by have h := h2.2.2; have e2 : (Int.ofNat p) = (p : Int) := rfl; rw [e2] at h; omega)
        have key : aMake E.P h true t (.int kl (.ofNat n)) (.int kc (.ofNat p)) = some (.slice (some ⟨h.next, 0, none⟩) n m, ⟨h.rows.put h.next (some ⟨(List.replicate p z.cells.toList).flatten, false, .cells true⟩), h.next + 1⟩) := by
          simp only [aMake, hd, hm, hz, hi, c1, c2, h1.1.1.1, h1.1.1.2, h1.1.2, h1.2, Bool.and_self, cond_true]
        refine ⟨_, _, key, ?_⟩
        split at ha
        · rename_i z0 hz0
          rw [hz0]
          have e : (List.replicate p [z0]).flatten = List.replicate p z0 := by simp
          rw [e]; exact ha
        · exact ha
      · exact ha.elim
    · exact ha.elim
theorem sBytes_sound {h : Hp} {src dst : TypeId} {x : Value} {k : Value → Hp → Prop} (ha : sBytes E h src dst x k) : ∃ v h', aBytes E.P h src dst x = some (v, h') ∧ k v h' := by
  unfold sBytes at ha
  simp only [litC_eq] at ha
  split at ha
  · rename_i s
    split at ha
    · rename_i _ e hd0 hd
      split at ha
      · rename_i he
        obtain ⟨h1, ha⟩ := need_spec ha
        rcases br_spec ha with ⟨h2, ha⟩ | ⟨h2, ha⟩
        · simp only [decide_eq_true_eq] at h2
          refine ⟨_, _, ?_, ha⟩
          have : Nat.blt 0 s.data.toList.length = true := Nat.ble_eq_true_of_le h2
          simp only [aBytes, hd0, hd, he, h1, this, cond_true]
        · simp only [decide_eq_false_iff_not] at h2
          refine ⟨_, _, ?_, ha⟩
          have : Nat.blt 0 s.data.toList.length = false := by
            cases hb : Nat.blt 0 s.data.toList.length with
            | false => rfl
            | true => exact absurd (Nat.le_of_ble_eq_true hb) h2
          simp only [aBytes, hd0, hd, he, h1, this, cond_true, cond_false]
      · exact ha.elim
    · exact ha.elim
  · split at ha
    · rename_i v h' hv; exact ⟨_, _, hv, ha⟩
    · exact ha.elim
theorem sUpdate_sound {h : Hp} {t : TypeId} {m key x : Value} {k : Tr Row → Prop} (he : sUpdate E h t m key x k) : ∃ rows, aUpdate E.P h t m key x = some rows ∧ k rows := by
  unfold sUpdate at he
  split at he
  · rename_i r
    split at he
    · rename_i C0 hr
      split at he
      · rename_i kt et ht
        obtain ⟨hb, he⟩ := need_spec he
        simp only [Bool.and_eq_true] at hb
        obtain ⟨⟨hk, h1⟩, h2⟩ := hb
        obtain ⟨v1, rows1, hf, he⟩ := sFrz1_sound E he
        split at he
        · rename_i C hr1
          obtain ⟨hm, he⟩ := he
          rw [MKeys_eq] at hm
          rw [mpPut_eq] at he
          refine ⟨_, ?_, he⟩
          simp only [aUpdate, hr, ht, h1, cond_true, hf]
          exact aUpd0_ok ht hr1 hk hm h2
        · exact he.elim
      · exact he.elim
    · split at he
      · rename_i rows hu; exact ⟨rows, hu, he⟩
      · exact he.elim
  · split at he
    · rename_i rows hu; exact ⟨rows, hu, he⟩
    · exact he.elim
theorem sDelete_sound {rows : Tr Row} {t : TypeId} {m key : Value} {k : Tr Row → Prop} (he : sDelete E rows t m key k) : ∃ rows', aDelete E.P rows t m key = some rows' ∧ k rows' := by
  unfold sDelete at he
  split at he
  · rename_i r
    split at he
    · rename_i C hr
      split at he
      · rename_i kt et ht
        obtain ⟨hb, hm, he⟩ := need_spec he
        simp only [Bool.and_eq_true] at hb
        rw [MKeys_eq] at hm
        rw [mpDel_eq] at he
        exact ⟨_, aDelete_ok ht hr hb.1 hm hb.2, he⟩
      · exact he.elim
    · split at he
      · rename_i rows hu; exact ⟨rows, hu, he⟩
      · exact he.elim
  · split at he
    · rename_i rows hu; exact ⟨rows, hu, he⟩
    · exact he.elim
theorem sE_sound {ρ ρ' : Operand → Option Value} (hl : RLe ρ ρ') {h : Hp} {o : Oper} {k : Res → Hp → Prop} (he : sE E ρ h o k) : ∃ r h', evE E.P ρ' h o = some (r, h') ∧ k r h' := by
  unfold sE at he
  unfold evE
  split at he
  · rename_i t a x e; rw [e]
    split at he
    · rename_i av xv ha hx
      simp only [hl _ _ ha, hl _ _ hx]
      obtain ⟨h0, he2⟩ := need_spec he
      clear he
      unfold sStore at he2
      split at he2
      · rename_i r i m hm
        obtain ⟨h1, he⟩ := need_spec he2
        obtain ⟨vs, rows1, hf, he⟩ := sFrz_sound E he
        obtain ⟨t', h2, h3⟩ := sPutCells_sound E he
        refine ⟨_, _, ?_, h3⟩
        simp only [aStore, hm, h0, h1, cond_true, hf, h2]
      · exact he2.elim
    · exact he.elim
  · rename_i t l c e; rw [e]
    split at he
    · rename_i lv cv h1 h2
      simp only [hl _ _ h1, hl _ _ h2]
      obtain ⟨v, h', h3, h4⟩ := sMake_sound E he
      rw [h3]; exact ⟨_, _, rfl, h4⟩
    · exact he.elim
  · rename_i c e; rw [e]
    simp only
    split at he
    · rename_i hc; rw [hc]
      obtain ⟨v, h', h3, h4⟩ := sAppend_sound E hl he
      simp only [h3]; exact ⟨_, _, rfl, h4⟩
    · rename_i hc; rw [hc]
      obtain ⟨v, h', h3, h4⟩ := sCopy_sound E hl he
      simp only [h3]; exact ⟨_, _, rfl, h4⟩
    · rename_i f hc; rw [hc]
      split at he
      · rename_i fid a b d hm; simp only [aCall_mono hl hm]; exact ⟨_, _, rfl, he⟩
      · exact he.elim
    · rename_i hc; rw [hc]; exact ⟨_, _, rfl, he⟩
    · rename_i hc; rw [hc]
      split at he
      · rename_i m key t ts ha ht
        split at he
        · rename_i mv kv hm hk
          obtain ⟨rows, hu, he⟩ := sDelete_sound E he
          refine ⟨_, _, ?_, he⟩
          simp only [evX, e, hc, ha, ht, hl _ _ hm, hl _ _ hk, hu, asRes]
        · exact he.elim
      · exact he.elim
    · exact he.elim
  · rename_i c e; rw [e]
    simp only
    split at he
    · rename_i f hc; rw [hc]
      split at he
      · rename_i fid a b d hm; simp only [aCall_mono hl hm]; exact ⟨_, _, rfl, he⟩
      · exact he.elim
    · exact he.elim
  · rename_i x e; rw [e]
    split at he
    · rename_i t v hx; simp only [hl _ _ hx]; exact ⟨_, _, rfl, he⟩
    · exact he.elim
  · rename_i src dst x e; rw [e]
    split at he
    · rename_i xv hx
      simp only [hl _ _ hx]
      obtain ⟨v, h', h3, h4⟩ := sBytes_sound E he
      rw [h3]; exact ⟨_, _, rfl, h4⟩
    · exact he.elim
  · rename_i t x y t' e
    split at he
    · rename_i ka a kb b hx hy
      cases hk : decide (ka = kb) with
      | false => rw [hk] at he; exact he.elim
      | true =>
        rw [hk] at he
        simp only [cond_true] at he
        split at he
        · rename_i hf
          refine ⟨_, _, ?_, he⟩
          rw [e]
          simp only [evX, e, div0, hl _ _ hx, hl _ _ hy, hk, cond_true, hf]; rfl
        · exact he.elim
    · exact he.elim
  · rename_i e; rw [e]
    split at he
    · rename_i v h' hm
      refine ⟨_, _, ?_, he⟩
      simp only [evX, e, hm, asRes]
    · exact he.elim
  · rename_i t m key x e; rw [e]
    split at he
    · rename_i mv kv xv hm hk hx
      obtain ⟨rows, hu, he⟩ := sUpdate_sound E he
      refine ⟨_, _, ?_, he⟩
      simp only [evX, e, hl _ _ hm, hl _ _ hk, hl _ _ hx, hu, asRes]
    · exact he.elim
  · rename_i t m key x e; rw [e]
    split at he
    · rename_i mv kv xv hm hk hx
      obtain ⟨rows, hu, he⟩ := sUpdate_sound E he
      refine ⟨_, _, ?_, he⟩
      simp only [evX, e, hl _ _ hm, hl _ _ hk, hl _ _ hx, hu, asRes]
    · exact he.elim
  · rename_i t x e; rw [e]
    split at he
    · rename_i v hv
      split at he
      · rename_i v2 h' hm
        refine ⟨_, _, ?_, he⟩
        simp only [evX, e, hl _ _ hv, hm, asRes]
      · exact he.elim
    · exact he.elim
  · rename_i it s e; rw [e]
    split at he
    · rename_i v hv
      split at he
      · rename_i v2 h' hm
        refine ⟨_, _, ?_, he⟩
        simp only [evX, e, hl _ _ hv, hm, asRes]
      · exact he.elim
    · exact he.elim
  · exact he.elim
theorem isBytes_spec {ρ ρ' : Operand → Option Value} (hl : RLe ρ ρ') {rows : Tr Row} {o : Oper} (h : isBytes E ρ rows o = true) : rowless E.P o = false ∧ evQ E.P ρ' rows o = none := by
  unfold isBytes at h
  split at h
  · rename_i src dst x e
    split at h
    · rename_i s hx
      split at h
      · rename_i hq
        refine ⟨by simp [rowless, e], ?_⟩
        have hx' := hl _ _ hx
        have key : evPure E.P ρ o = evPure E.P ρ' o := by
          have hsel : ∀ a b, o.op ≠ .select a b := fun a b e' => by rw [e] at e'; simp at e'
          rw [evPure_eq hsel, evPure_eq hsel]
          have f1 : flatAll ρ o.op.operands.toList = flatAll ρ' o.op.operands.toList := by simp [e, Op.operands, flatAll, hx, hx']
          have hc : execOp (fun x => (ρ x).getD undef) o = execOp (fun x => (ρ' x).getD undef) o :=
            execOp_congr o (fun cs b e => hsel cs b e) fun y hy => by
              rw [e] at hy
              simp [Op.operands] at hy
              subst hy
              simp only [hx, hx']
          rw [f1, hc]
        unfold evQ at hq ⊢
        rw [e] at hq ⊢
        simp only [evConv, hx, hx'] at hq ⊢
        rw [← key]; exact hq
      · simp at h
    · rename_i a n c hx
      cases hd : Nat.beq src dst with
      | false => rw [hd] at h; simp at h
      | true =>
        rw [hd] at h
        simp only [cond_true] at h
        split at h
        · rename_i hq
          refine ⟨by simp [rowless, e], ?_⟩
          have hx' := hl _ _ hx
          unfold evQ at hq ⊢
          rw [e] at hq ⊢
          simp only [evConv, hx, hx'] at hq ⊢
          exact hq
        · simp at h
    · simp at h
  · simp at h
theorem silent_mono {P : Program} {ρ ρ' : Operand → Option Value} (hl : RLe ρ ρ') {rows : Tr Row} {o : Oper} {v : Value} (h : silent P ρ rows o = some v) : silent P ρ' rows o = some v := by
  unfold silent at h ⊢
  split at h
  · rename_i src dst x hop
    split at h
    · rename_i r k len e hx
      rw [hl _ _ hx]
      exact h
    · simp at h
  · simp at h
theorem silent_eq {ρ ρ' : Operand → Option Value} (hl : RLe ρ ρ') {rows : Tr Row} {o : Oper} (h : isBytes E ρ rows o = true) : silent E.P ρ' rows o = silent E.P ρ rows o := by
  unfold isBytes at h
  unfold silent
  split at h
  · rename_i src dst x hop
    rw [hop]
    split at h
    · rename_i s hx; simp only [hx, hl _ _ hx]
    · rename_i a n c hx; simp only [hx, hl _ _ hx]
    · simp at h
  · simp at h
theorem isNanQ_spec {ρ ρ' : Operand → Option Value} (hl : RLe ρ ρ') {rows : Tr Row} {o : Oper} (h : isNanQ E ρ o = true) : evQ E.P ρ' rows o = none := by
  unfold isNanQ at h
  split at h
  · simp at h
  · split at h
    · rename_i t x y t' e
      split at h
      · rename_i k a k' b hx hy
        cases hk : decide (k = k') with
        | false => rw [hk] at h; simp at h
        | true =>
          rw [hk] at h
          simp only [cond_true] at h
          split at h
          · rename_i hf
            have hx' := hl _ _ hx
            have hy' := hl _ _ hy
            unfold evQ
            rw [e]
            simp only [evBin, hx', hy', hk, cond_true, hf]
          · simp at h
      · simp at h
    · simp at h
theorem sDiv_sound {ρ ρ' : Operand → Option Value} (hl : RLe ρ ρ') {h : Hp} {o : Oper} {k : Res → Hp → Prop} (hq : isIntQ E ρ o = true) (he : sDiv E ρ h o k) :
    ∃ r h', (match evQ E.P ρ' h.rows o with | some v => some (Res.val v, h) | none => evE E.P ρ' h o) = some (r, h') ∧ k r h' := by
  unfold isIntQ at hq
  split at hq
  · simp at hq
  · split at hq
    · rename_i t x y t' e
      split at hq
      · rename_i ka a kb b hx hy
        simp only [decide_eq_true_eq] at hq
        subst hq
        unfold sDiv at he
        rw [e] at he
        simp only [hx, hy] at he
        have hx' := hl _ _ hx
        have hy' := hl _ _ hy
        by_cases hb : b = 0
        · subst hb
          simp only [decide_true] at he
          have he : k (.panic (divV E.P)) h := he
          have e1 : evQ E.P ρ' h.rows o = none := by
            unfold evQ
            rw [e]
            simp only [evBin, hx', hy', decide_true, cond_true, ibin]
            exact evPure_div0 e hx' hy'
          rw [e1]
          refine ⟨_, _, ?_, he⟩
          unfold evE
          rw [e]
          simp only [div0, hx', hy', decide_true, Bool.and_self, cond_true]
        · have e0 : decide (b = 0) = false := decide_eq_false hb
          rw [e0] at he
          have he : k (.val (.int ka (ka.wrap (a.tdiv b)))) h := he
          have e1 : evQ E.P ρ' h.rows o = some (.int ka (ka.wrap (a.tdiv b))) := by
            unfold evQ
            rw [e]
            simp only [evBin, hx', hy', decide_true, cond_true, ibin]
            exact (evPure_div e hx' hy' hb).1 rfl
          rw [e1]
          exact ⟨_, _, rfl, he⟩
      · simp at hq
    · simp at hq
theorem sOp_sound {ρ ρ' : Operand → Option Value} (hl : RLe ρ ρ') {h : Hp} {o : Oper} {k : Res → Hp → Prop} (he : sOp E ρ h o k) : ∃ r h', evOp E.P ρ' h o = some (r, h') ∧ k r h' := by
  unfold sOp at he
  unfold evOp
  cases hk : kind o with
  | quiet =>
    rw [hk] at he
    obtain ⟨v, h1, h2⟩ := sQ_sound E hl he
    simp only [h1]; exact ⟨_, _, rfl, h2⟩
  | conv =>
    rw [hk] at he
    simp only at he
    cases hb : isBytes E ρ h.rows o with
    | true =>
      rw [hb] at he
      simp only [(isBytes_spec E hl hb).2]
      exact sE_sound E hl he
    | false =>
      rw [hb] at he
      simp only [cond_false] at he
      cases hn : isNanQ E ρ o with
      | true =>
        rw [hn] at he
        simp only [isNanQ_spec E hl (rows := h.rows) hn]
        exact sE_sound E hl he
      | false =>
      rw [hn] at he
      simp only [cond_false] at he
      cases hi : isIntQ E ρ o with
      | true => rw [hi] at he; exact sDiv_sound E hl hi he
      | false =>
      rw [hi] at he
      obtain ⟨v, h1, h2⟩ := sQ_sound E hl he
      simp only [h1]; exact ⟨_, _, rfl, h2⟩
  | act => rw [hk] at he; exact sE_sound E hl he
  | new =>
    rw [hk] at he
    simp only at he ⊢
    split at he
    · rename_i cs ak ha
      rw [evA_mono hl ha]
      simp only
      cases hb : Nat.blt h.next Tr.top with
      | false => rw [hb] at he; exact he.elim
      | true => rw [hb] at he; exact ⟨_, _, rfl, he⟩
    · exact he.elim
def KS (K : KO) (x : Out4) : Prop := ∃ ov, Sub ov x.2.1.tm ∧ K (x.1, ⟨ov, x.2.1.nt, x.2.1.df⟩, x.2.2.1, x.2.2.2)
structure Fam (C : Nat → CallF) : Prop where
  le : ∀ n m, n ≤ m → CLe (C n) (C m)
def SOk (C : Nat → CallF) (call : SCall) : Prop := ∀ f a h k, call f a h k → ∃ n r, C n f a h = some r ∧ k r
theorem sSeq_sound {C : Nat → CallF} (hC : Fam C) {call : SCall} (hcall : SOk C call) (ops : Array Oper) {K : KO} : ∀ (l : List Oper) (fr : Fr) (u : Option FrameMode) (h : Hp) (tm : Tr Value), sSeq E call ops l fr u h K → Sub fr.tm tm →
    ∃ n x, evSeq E.P (C n) ops l ⟨tm, fr.nt, fr.df⟩ u h = some x ∧ KS K x := by
  intro l
  induction l with
  | nil => intro fr u h tm he hs; exact ⟨0, _, rfl, fr.tm, hs, he⟩
  | cons o rest ih =>
    intro fr u h tm he hs
    simp only [sSeq] at he
    obtain ⟨ov, hs, he⟩ := sWant_sound he hs
    have putD : ∀ (df : List Deferred) (v : Value) (h : Hp) (u : Option FrameMode), sPut ⟨ov, fr.nt, df⟩ o.dst v (fun fr => sSeq E call ops rest fr u h K) →
        ∃ n x, putFr ⟨tm, fr.nt, df⟩ o.dst v (fun fr => evSeq E.P (C n) ops rest fr u h) = some x ∧ KS K x := by
      intro df v h u hp
      obtain ⟨ov', tm', h1, h2, h3⟩ := sPut_sound hp hs
      obtain ⟨n, x, h4, h5⟩ := ih _ _ _ _ h3 h2
      exact ⟨n, x, by rw [putFr_def, h1]; exact h4, h5⟩
    have put := putD fr.df
    cases hw : wantB tm ops o with
    | false =>
      rw [hw] at he
      obtain ⟨n, x, h1, h2⟩ := put _ _ _ he
      exact ⟨n, x, by simp only [evSeq, hw]; exact h1, h2⟩
    | true =>
      rw [hw] at he
      obtain ⟨r, h', h1, h2⟩ := sOp_sound E (kv_le hs) he
      rw [nfHp_eq] at h2
      cases r with
      | val v =>
        simp only [nv_eq] at h2
        obtain ⟨n, x, h3, h4⟩ := put _ _ _ h2
        exact ⟨n, x, by simp only [evSeq, hw, h1, nfHp_eq, nfK_eq]; exact h3, h4⟩
      | skip =>
        obtain ⟨n, x, h3, h4⟩ := put _ _ _ h2
        exact ⟨n, x, by simp only [evSeq, hw, h1, nfHp_eq]; exact h3, h4⟩
      | enter f args =>
        obtain ⟨n1, y, h3, h4⟩ := hcall _ _ _ _ h2
        obtain ⟨e, h''⟩ := y
        cases e with
        | ret v =>
          simp only [nv_eq, nfHp_eq] at h4
          obtain ⟨n2, x, h5, h6⟩ := put _ _ _ h4
          refine ⟨max n1 n2, x, ?_, h6⟩
          simp only [evSeq, hw, h1, nfHp_eq]
          rw [hC.le n1 (max n1 n2) (by omega) _ _ _ _ h3]
          simp only [nfK_eq]
          exact putFr_mono (fun fr' r hr => evSeq_mono (hC.le n2 (max n1 n2) (by omega)) _ _ _ _ _ _ hr) h5
        | pan ch =>
          exact ⟨n1, (.panic ch, ⟨tm, fr.nt, fr.df⟩, u, h''), by simp only [evSeq, hw, h1, nfHp_eq, h3], ov, hs, h4⟩
      | panic v => exact ⟨0, (.panic [{ v, recovered := false }], ⟨tm, fr.nt, fr.df⟩, u, h'), by simp only [evSeq, hw, h1, nfHp_eq], ov, hs, h2⟩
      | defer d =>
        obtain ⟨n, x, h3, h4⟩ := putD (d :: fr.df) _ _ _ h2
        exact ⟨n, x, by simp only [evSeq, hw, h1, nfHp_eq]; exact h3, h4⟩
      | recov =>
        have other : ∀ m, u = some m → (∀ v older, m ≠ .panicking ({ v, recovered := false, goexit := false } :: older)) → sPut ⟨ov, fr.nt, fr.df⟩ o.dst .nilIface (fun fr => sSeq E call ops rest fr (some m) h' K) →
            ∃ n x, evSeq E.P (C n) ops (o :: rest) ⟨tm, fr.nt, fr.df⟩ u h = some x ∧ KS K x := by
          intro m hu hne hp
          obtain ⟨n, x, h3, h4⟩ := put _ _ _ hp
          refine ⟨n, x, ?_, h4⟩
          subst hu
          simp only [evSeq, hw, h1, nfHp_eq]
          cases m with
          | run => exact h3
          | returning => exact h3
          | panicking l =>
            cases l with
            | nil => exact h3
            | cons p older =>
              obtain ⟨v, rc, gx⟩ := p
              cases rc with
              | true => exact h3
              | false =>
                cases gx with
                | true => exact h3
                | false => exact absurd rfl (hne v older)
        simp only at h2
        split at h2
        · exact h2.elim
        · rename_i v older
          rw [nv_eq] at h2
          obtain ⟨n, x, h3, h4⟩ := put _ _ _ h2
          exact ⟨n, x, by simp only [evSeq, hw, h1, nfHp_eq]; exact h3, h4⟩
        · rename_i m hne _
          exact other m rfl (fun v older e => hne v older e) h2
theorem ovr_same {l : List Value} {j : Nat} {v : Value} (h : l[j]? = some v) : ovr l j [v] = l := by
  obtain ⟨hj, hg⟩ := List.getElem?_eq_some_iff.1 h
  apply List.ext_getElem
  · rw [ovr_length _ _ _ (by simp; omega)]
  · intro i h1 h2
    have := ovr_get l j [v] (by simp; omega) i
    have e : (ovr l j [v])[i]? = l[i]? := by
      rw [this]
      split
      · rename_i hh
        simp at hh
        have : i = j := by omega
        subst this
        simp [h]
      · rfl
    rw [List.getElem?_eq_getElem h1, List.getElem?_eq_getElem h2] at e
    simpa using e
section
variable {l : List Oper} {ms : List Nat} {ov tm : Tr Value} {base : Nat}
theorem skV_le (hs : Sub ov tm) (vs : List Value) (i : Nat) : RLe (skV l ms ov vs i) (dV l ms tm vs i) := by
  intro x v hx
  cases x with
  | const c => exact hx
  | func f => exact hx
  | global g => simp [skV] at hx
  | tmp t =>
    simp only [skV] at hx
    simp only [dV]
    split at hx
    · rename_i e; rw [e]; simp only [hs _ _ hx]
    · rename_i j e; rw [e]
      simp only
      cases hb : Nat.testBit (mk ms i) j with
      | true => rw [hb] at hx; exact hx
      | false =>
        rw [hb] at hx
        simp only [cond_false] at hx ⊢
        cases hb2 : (Nat.testBit (mk ms j) i || Nat.beq j i) with
        | true => rw [hb2] at hx; simp only [cond_true] at hx ⊢; rw [hs _ _ hx]
        | false => rw [hb2] at hx; simp at hx
theorem dV_more (vs more : List Value) (i : Nat) : RLe (dV l ms tm vs i) (dV l ms tm (vs ++ more) i) := by
  intro x v hx
  cases x with
  | const c => exact hx
  | func f => exact hx
  | global g => simp [dV] at hx
  | tmp t =>
    simp only [dV] at hx ⊢
    cases e : wrOf l 0 t with
    | none => rw [e] at hx; exact hx
    | some j =>
      rw [e] at hx
      simp only at hx ⊢
      cases hb : Nat.testBit (mk ms i) j with
      | true =>
        rw [hb] at hx
        simp only [cond_true] at hx ⊢
        rw [List.getElem?_append_left (List.getElem?_eq_some_iff.1 hx).1]; exact hx
      | false => rw [hb] at hx; exact hx
theorem dWant_mono {ρ ρ' : Operand → Option Value} (hl : RLe ρ ρ') {o : Oper} {w : Bool} (h : dWant l ρ o = some w) : dWant l ρ' o = some w := by
  unfold dWant at h ⊢
  split at h
  · exact h
  · rename_i j want e
    split at h
    · rename_i oj hj
      split at h
      · rename_i d hd
        cases hx : ρ (.tmp d) with
        | none => rw [hx] at h; simp at h
        | some v => rw [hx] at h; rw [hl _ _ hx]; exact h
      · exact h
    · exact h
theorem sdWant_sound (hs : Sub ov tm) {s : Pass} {i : Nat} {o : Oper} {k : Pass → Bool → Prop} (h : sdWant l ms ov s i o k) : ∃ w, dWant l (dV l ms tm s.vs i) o = some w ∧ k s w := by
  unfold sdWant at h
  unfold dWant
  split at h
  · rename_i e; rw [e]; exact ⟨true, rfl, h⟩
  · rename_i j want e
    rw [e]; simp only
    split at h
    · rename_i oj hj
      rw [hj]; simp only
      split at h
      · rename_i d hd
        rw [hd]; simp only
        split at h
        · rename_i b hb
          rw [skV_le hs _ _ _ _ hb]
          simp only
          have fin : br b (k s want) (k s (!want)) → ∃ w, some (b == want) = some w ∧ k s w := by
            intro h
            rcases br_spec h with ⟨rfl, hh⟩ | ⟨rfl, hh⟩
            · exact ⟨want, by cases want <;> rfl, hh⟩
            · exact ⟨!want, by cases want <;> rfl, hh⟩
          split at h
          · rename_i j' hj'
            cases ht : Nat.testBit (mk ms i) j' with
            | false => rw [ht] at h; exact fin h
            | true =>
              rw [ht] at h
              simp only [cond_true] at h
              have hv : s.vs[j']? = some (.bool b) := by
                simp only [skV, hj', ht, cond_true] at hb; exact hb
              have hlt := (List.getElem?_eq_some_iff.1 hv).1
              refine fin ?_
              rcases br_spec h with ⟨rfl, hh⟩ | ⟨rfl, hh⟩
              · rw [wrK_eq _ _ _ _ (by simp; omega), ovr_same hv] at hh; exact hh
              · rw [wrK_eq _ _ _ _ (by simp; omega), ovr_same hv] at hh; exact hh
          · exact fin h
        · rename_i hb; rw [skV_le hs _ _ _ _ hb]; exact ⟨false, rfl, h⟩
        · rename_i hb; rw [skV_le hs _ _ _ _ hb]; exact ⟨false, rfl, h⟩
        · exact h.elim
      · rename_i hd; rw [hd]; exact ⟨false, rfl, h⟩
    · rename_i hj; rw [hj]; exact ⟨false, rfl, h⟩
def Evd (P : Program) (l : List Oper) (ms : List Nat) (tm : Tr Value) (s : Pass) (i : Nat) (r : List Oper) : Prop :=
  ∀ (j : Nat) o, r[j]? = some o → rowless P o = true → dWant l (dV l ms tm s.vs (i + j)) o = some true → ∃ rows v, evQ P (dV l ms tm s.vs (i + j)) rows o = some v ∧ s.vs[i + j]? = some v ∧ veq 20 v v = true
theorem kind_rowless {P : Program} {o : Oper} (h : rowless P o = true) : kind o = .quiet ∨ kind o = .conv := by
  unfold rowless at h
  unfold kind
  cases hop : o.op with
  | binOp op _ _ _ _ => cases op <;> simp
  | call c =>
    rw [hop] at h
    obtain ⟨cl, as, ts⟩ := c
    cases cl <;> first | (simp at h; done) | skip
    rename_i b
    cases b <;> first | (simp at h; done) | simp
  | _ => first | (left; rfl) | (rw [hop] at h; simp at h; done)
theorem kind_act {P : Program} {o : Oper} (h : kind o = .act) : rowless P o = false := by
  cases hr : rowless P o with
  | false => rfl
  | true => rcases kind_rowless hr with h0 | h0 <;> rw [h0] at h <;> simp at h
theorem Evd.cons {P : Program} {s : Pass} {i : Nat} {o : Oper} {r : List Oper} (h : Evd P l ms tm s (i + 1) r)
    (h0 : rowless P o = true → dWant l (dV l ms tm s.vs i) o = some true → ∃ rows v, evQ P (dV l ms tm s.vs i) rows o = some v ∧ s.vs[i]? = some v ∧ veq 20 v v = true) : Evd P l ms tm s i (o :: r) := by
  intro j o' ho hr hd
  cases j with
  | zero => simp at ho; subst ho; exact h0 hr hd
  | succ j =>
    simp at ho
    have := h j o' ho hr (by rw [show i + 1 + j = i + (j + 1) by omega]; exact hd)
    rw [show i + 1 + j = i + (j + 1) by omega] at this
    exact this
theorem sPass_sound {C : Nat → CallF} (hC : Fam C) {call : SCall} (hcall : SOk C call) (hs : Sub ov tm) {k : Pass → Prop} : ∀ (r : List Oper) (i : Nat) (s : Pass), sPass E call l ms ov base r i s k → s.vs.length = i →
    ∃ n s' more, pass E.P (C n) l ms tm base r i s = some s' ∧ k s' ∧ s'.vs = s.vs ++ more ∧ Evd E.P l ms tm s' i r := by
  intro r
  induction r with
  | nil => intro i s h _; exact ⟨0, s, [], rfl, h, by simp, fun j o h => by simp at h⟩
  | cons o rest ih =>
    intro i s h hlen
    simp only [sPass] at h
    obtain ⟨w, hw, h⟩ := sdWant_sound hs h
    have step : ∀ (v : Value) (hs' : List Hp) (es' : List Nat) (nw' : New), sPass E call l ms ov base rest (i + 1) ⟨s.vs ++ [v], hs', es', nw'⟩ k →
        ∃ n s' more, pass E.P (C n) l ms tm base rest (i + 1) ⟨s.vs ++ [v], hs', es', nw'⟩ = some s' ∧ k s' ∧ s'.vs = s.vs ++ (v :: more) ∧ Evd E.P l ms tm s' (i + 1) rest := by
      intro v hs' es' nw' h
      obtain ⟨n, s', more, h1, h2, h3, h4⟩ := ih _ _ h (by simp [hlen])
      exact ⟨n, s', more, h1, h2, by simp [h3], h4⟩
    have notRow : rowless E.P o = false ∨ w = false → ∀ (s' : Pass) (more : List Value), s'.vs = s.vs ++ more → rowless E.P o = true → dWant l (dV l ms tm s'.vs i) o = some true → ∃ rows v, evQ E.P (dV l ms tm s'.vs i) rows o = some v ∧ s'.vs[i]? = some v ∧ veq 20 v v = true := by
      intro hh s' more hv hr hd
      rcases hh with hh | hh
      · rw [hh] at hr; simp at hr
      · rw [hv] at hd
        have := dWant_mono (dV_more s.vs more i) hw
        rw [this, hh] at hd; simp at hd
    cases w with
    | false =>
      simp only [apK_eq] at h
      obtain ⟨n, s', more, h1, h2, h3, h4⟩ := step _ _ _ _ h
      exact ⟨n, s', undef :: more, by simp only [pass, hw]; exact h1, h2, h3, h4.cons (notRow (.inr rfl) s' _ h3)⟩
    | true =>
      simp only at h
      split at h
      · exact h.elim
      · rename_i hp hlast
        have quiet : (kind o = .quiet ∨ kind o = .conv) → sQ E (skV l ms ov s.vs i) (addRows hp.rows base (Ev.seen ms s.es i) s.nw) o (fun v => nv E v fun v => need (self 20 v) (apK s.vs [v] fun vs => sPass E call l ms ov base rest (i + 1) ⟨vs, s.hs, s.es, s.nw⟩ k)) →
            ∃ n s' more, pass E.P (C n) l ms tm base (o :: rest) i s = some s' ∧ k s' ∧ s'.vs = s.vs ++ more ∧ Evd E.P l ms tm s' i (o :: rest) := by
          intro hk hq
          obtain ⟨v, h1, h2⟩ := sQ_sound E (skV_le hs s.vs i) hq
          rw [nv_eq] at h2
          obtain ⟨hself, h2⟩ := need_spec h2
          rw [apK_eq] at h2
          obtain ⟨n, s', more, g1, g2, g3, g4⟩ := step _ _ _ _ h2
          refine ⟨n, s', v :: more, ?_, g2, g3, g4.cons fun hr hd => ?_⟩
          · have h1s : evS E.P (dV l ms tm s.vs i) (addRows hp.rows base (Ev.seen ms s.es i) s.nw) o = some v := by unfold evS; rw [h1]
            simp only [pass, hw, hlast]
            rcases hk with hk | hk <;> rw [hk] <;> simp only [h1s, nfK_eq] <;> exact g1
          · refine ⟨addRows hp.rows base (Ev.seen ms s.es i) s.nw, v, ?_, ?_, self_veq _ _ hself⟩
            · rw [g3]; exact evQ_mono1 (dV_more s.vs _ i) hr h1
            · rw [g3, List.getElem?_append_right (by omega)]; simp [hlen]
        have acts : (kind o = .act ∨ (kind o = .conv ∧ evS E.P (dV l ms tm s.vs i) (addRows hp.rows base (Ev.seen ms s.es i) s.nw) o = none)) → rowless E.P o = false →
            need (s.es.all fun j => Nat.testBit (mk ms i) j) (sE E (skV l ms ov s.vs i) ⟨addRows hp.rows base (Ev.seen ms s.es i) s.nw, hp.next⟩ o fun r h' => nfHp h' fun h' =>
              match r with
              | .val v => nv E v fun v => apK s.vs [v] fun vs => sPass E call l ms ov base rest (i + 1) ⟨vs, s.hs ++ [h'], s.es ++ [i], s.nw⟩ k
              | .skip => apK s.vs [undef] fun vs => sPass E call l ms ov base rest (i + 1) ⟨vs, s.hs ++ [h'], s.es ++ [i], s.nw⟩ k
              | .enter f args => call f args h' fun x =>
                match x with
                | (.ret v, h') => nfHp h' fun h' => nv E v fun v => apK s.vs [v] fun vs => sPass E call l ms ov base rest (i + 1) ⟨vs, s.hs ++ [h'], s.es ++ [i], s.nw⟩ k
                | _ => False
              | _ => False) →
            ∃ n s' more, pass E.P (C n) l ms tm base (o :: rest) i s = some s' ∧ k s' ∧ s'.vs = s.vs ++ more ∧ Evd E.P l ms tm s' i (o :: rest) := by
          intro hk nr h
          obtain ⟨hall, h⟩ := need_spec h
          have go : ∀ (x : Option Pass), (bif s.es.all (fun j => Nat.testBit (mk ms i) j) then x else none) = x := fun x => by rw [hall]; rfl
          obtain ⟨rs, h', h1, h2⟩ := sE_sound E (skV_le hs s.vs i) h
          rw [nfHp_eq] at h2
          have fin : ∀ (n : Nat) (v : Value) (h'' : Hp) (s' : Pass) (more : List Value), passE (C n) (some (rs, h')) = some (v, h'') → pass E.P (C n) l ms tm base rest (i + 1) ⟨s.vs ++ [v], s.hs ++ [h''], s.es ++ [i], s.nw⟩ = some s' → k s' → s'.vs = s.vs ++ (v :: more) → Evd E.P l ms tm s' (i + 1) rest →
              ∃ n s' more, pass E.P (C n) l ms tm base (o :: rest) i s = some s' ∧ k s' ∧ s'.vs = s.vs ++ more ∧ Evd E.P l ms tm s' i (o :: rest) := by
            intro n v h'' s' more hp' g1 g2 g3 g4
            refine ⟨n, s', v :: more, ?_, g2, g3, g4.cons (notRow (.inl nr) s' _ g3)⟩
            rcases hk with hk | ⟨hk, hq⟩
            · simp only [pass, hw, hlast, hk, go, h1, hp', nfHp_eq, nfK_eq]
              exact g1
            · simp only [pass, hw, hlast, hk, hq, go, h1, hp', nfHp_eq, nfK_eq]
              exact g1
          cases rs with
          | val v =>
            simp only [nv_eq, apK_eq] at h2
            obtain ⟨n, s', more, g1, g2, g3, g4⟩ := step _ _ _ _ h2
            exact fin n v h' s' more rfl g1 g2 g3 g4
          | skip =>
            simp only [apK_eq] at h2
            obtain ⟨n, s', more, g1, g2, g3, g4⟩ := step _ _ _ _ h2
            exact fin n undef h' s' more rfl g1 g2 g3 g4
          | enter f args =>
            obtain ⟨n1, y, h3, h4⟩ := hcall _ _ _ _ h2
            obtain ⟨e, h''⟩ := y
            cases e with
            | ret v =>
              simp only [nv_eq, nfHp_eq, apK_eq] at h4
              obtain ⟨n, s', more, g1, g2, g3, g4⟩ := step _ _ _ _ h4
              refine fin (max n1 n) v h'' s' more ?_ (pass_mono (hC.le n (max n1 n) (by omega)) _ _ _ _ _ _ _ _ g1) g2 g3 g4
              simp only [passE, nfHp_eq]
              rw [hC.le n1 (max n1 n) (by omega) _ _ _ _ h3]
            | pan c => exact h4.elim
          | panic v => exact h2.elim
          | defer d => exact h2.elim
          | recov => exact h2.elim
        cases hk : kind o with
        | quiet => rw [hk] at h; exact quiet (.inl hk) h
        | conv =>
          rw [hk] at h
          simp only at h
          cases hb : isBytes E (skV l ms ov s.vs i) (addRows hp.rows base (Ev.seen ms s.es i) s.nw) o with
          | false => rw [hb] at h; exact quiet (.inr hk) h
          | true =>
            rw [hb] at h
            obtain ⟨b1, b2⟩ := isBytes_spec E (skV_le hs s.vs i) hb
            simp only [cond_true] at h
            cases hsi : silent E.P (skV l ms ov s.vs i) (addRows hp.rows base (Ev.seen ms s.es i) s.nw) o with
            | none => rw [hsi] at h; exact acts (.inr ⟨hk, by unfold evS; rw [b2]; simp only; rw [silent_eq E (skV_le hs s.vs i) hb]; exact hsi⟩) b1 h
            | some v =>
              rw [hsi] at h
              have hsm := silent_mono (skV_le hs s.vs i) hsi
              simp only [nv_eq, apK_eq] at h
              obtain ⟨hself, h2⟩ := need_spec h
              obtain ⟨n, s', more, g1, g2, g3, g4⟩ := step _ _ _ _ h2
              refine ⟨n, s', v :: more, ?_, g2, g3, g4.cons (notRow (.inl b1) s' _ g3)⟩
              have hev : evS E.P (dV l ms tm s.vs i) (addRows hp.rows base (Ev.seen ms s.es i) s.nw) o = some v := by unfold evS; rw [b2]; exact hsm
              simp only [pass, hw, hlast, hk, hev, nfK_eq]
              exact g1
        | new =>
          rw [hk] at h
          simp only at h
          have nr : rowless E.P o = false := by
            cases hr : rowless E.P o with
            | false => rfl
            | true => rcases kind_rowless hr with h0 | h0 <;> rw [h0] at hk <;> simp at hk
          split at h
          · rename_i cs ak ha
            simp only [nv_eq, apK_eq] at h
            obtain ⟨n, s', more, g1, g2, g3, g4⟩ := step _ _ _ _ h
            refine ⟨n, s', _ :: more, ?_, g2, g3, g4.cons (notRow (.inl nr) s' _ g3)⟩
            simp only [pass, hw, hlast, hk, evA_mono (skV_le hs s.vs i) ha]
            exact g1
          · exact h.elim
        | act =>
          rw [hk] at h
          exact acts (.inl hk) (kind_act hk) h
theorem sAgain_sound (hs : Sub ov tm) {s : Pass} {i : Nat} {o : Oper} {v : Value} {k : Prop} : ∀ (hps : List Hp) (n : Nat), sAgain E l ms ov base s i o v hps n k → again E.P l ms tm base s i o v hps n = true ∧ k := by
  intro hps
  induction hps with
  | nil => intro n h; exact ⟨rfl, h⟩
  | cons hp r ih =>
    intro n h
    simp only [sAgain] at h
    simp only [again]
    cases hw : window ms s.es i n with
    | false => rw [hw] at h; simp only [cond_false] at h ⊢; simpa using ih _ h
    | true =>
      rw [hw] at h
      simp only [cond_true] at h ⊢
      cases hb : isBytes E (skV l ms ov s.vs i) (addRows hp.rows base (Ev.seen ms (s.es.take n) i) s.nw) o with
      | true =>
        rw [hb] at h
        simp only [cond_true] at h
        obtain ⟨_, b2⟩ := isBytes_spec E (skV_le hs s.vs i) hb
        split at h
        · rename_i v' hsi
          obtain ⟨h8, h9⟩ := need_spec h
          obtain ⟨h3, h4⟩ := need_spec h9
          obtain ⟨h5, h6⟩ := ih _ h4
          have hev : evS E.P (dV l ms tm s.vs i) (addRows hp.rows base (Ev.seen ms (s.es.take n) i) s.nw) o = some v' := by unfold evS; rw [b2]; exact silent_mono (skV_le hs s.vs i) hsi
          rw [hev]
          simp only [h8, h5, Bool.and_self, true_and]
          exact h6
        · exact h.elim
      | false =>
      rw [hb] at h
      simp only [cond_false] at h
      obtain ⟨v', h1, hc⟩ := sQ_sound E (skV_le hs s.vs i) h
      have hc2 : v' = v ∧ need (self 20 v) (sAgain E l ms ov base s i o v r (n + 1) k) := by
        cases he : E.clo with
        | true =>
          rw [he] at hc
          simp only [cond_true] at hc
          obtain ⟨h8, h9⟩ := need_spec hc
          exact ⟨veq_eq _ _ _ h8, h9⟩
        | false => rw [he] at hc; exact hc
      obtain ⟨rfl, h2⟩ := hc2
      obtain ⟨h3, h4⟩ := need_spec h2
      obtain ⟨h5, h6⟩ := ih _ h4
      have hev : evS E.P (dV l ms tm s.vs i) (addRows hp.rows base (Ev.seen ms (s.es.take n) i) s.nw) o = some v' := by unfold evS; rw [h1]
      rw [hev]
      simp only [self_veq _ _ h3, h5, Bool.and_self, true_and]
      exact h6
theorem again_rowless {P : Program} {s : Pass} {i : Nat} {o : Oper} {v : Value} (hr : rowless P o = true) {rows : Tr Row} (h : evQ P (dV l ms tm s.vs i) rows o = some v) (hv : veq 20 v v = true) : ∀ (hps : List Hp) (n : Nat), again P l ms tm base s i o v hps n = true := by
  intro hps
  induction hps with
  | nil => intro n; rfl
  | cons hp r ih =>
    intro n
    simp only [again, ih, Bool.and_true]
    cases window ms s.es i n with
    | false => rfl
    | true => unfold evS; rw [evQ_rowless hr _ rows, h]; simpa using hv
theorem sLook2_sound (hs : Sub ov tm) {s : Pass} {k : Prop} : ∀ (r : List Oper) (i : Nat), sLook2 E l ms ov base s r i k → Evd E.P l ms tm s i r → look2 E.P l ms tm base s r i = true ∧ k := by
  intro r
  induction r with
  | nil => intro i h _; exact ⟨rfl, h⟩
  | cons o rest ih =>
    intro i h hev
    simp only [sLook2] at h
    simp only [look2]
    obtain ⟨w, hw, h⟩ := sdWant_sound hs h
    rw [hw]
    have hev' : Evd E.P l ms tm s (i + 1) rest := by
      intro j o' ho hr hd
      have := hev (j + 1) o' (by simpa using ho) hr (by rw [show i + (j + 1) = i + 1 + j by omega]; exact hd)
      rw [show i + (j + 1) = i + 1 + j by omega] at this
      exact this
    cases w with
    | false => simpa using ih _ h hev'
    | true =>
      simp only at h ⊢
      cases hb : (s.es.contains i || s.nw.any (fun p => Nat.beq p.1 i)) with
      | true =>
        rw [hb] at h
        simp only [Bool.true_or, cond_true] at h ⊢
        simpa using ih _ h hev'
      | false =>
        rw [hb] at h
        simp only [Bool.false_or] at h ⊢
        cases hr : rowless E.P o with
        | true =>
          rw [hr] at h
          obtain ⟨rows, v, e1, e2, e3⟩ := hev 0 o (by simp) hr (by simpa using hw)
          simp only [Nat.add_zero] at e1 e2
          rw [e2]
          simp only [again_rowless hr e1 e3, Bool.true_and]
          exact ih _ h hev'
        | false =>
          rw [hr] at h
          simp only [cond_false] at h
          split at h
          · rename_i v hv
            rw [hv]
            obtain ⟨h1, h2⟩ := sAgain_sound E hs _ _ h
            simp only [h1, Bool.true_and]
            exact ih _ h2 hev'
          · exact h.elim
end
theorem sPuts_sound {k : Fr → Prop} : ∀ (l : List Oper) (vs : List Value) (fr : Fr) (tm : Tr Value), sPuts l vs fr k → Sub fr.tm tm →
    ∃ ov tm', puts l vs ⟨tm, fr.nt, fr.df⟩ = some ⟨tm', fr.nt, fr.df⟩ ∧ Sub ov tm' ∧ k ⟨ov, fr.nt, fr.df⟩ := by
  intro l
  induction l with
  | nil => intro vs fr tm h hs; exact ⟨fr.tm, tm, by simp [puts], hs, by simpa [sPuts] using h⟩
  | cons o l ih =>
    intro vs fr tm h hs
    cases vs with
    | nil => exact ⟨fr.tm, tm, by simp [puts], hs, by simpa [sPuts] using h⟩
    | cons v vs =>
      simp only [sPuts] at h
      obtain ⟨ov, tm', h1, h2, h3⟩ := sPut_sound h hs
      obtain ⟨ov2, tm2, h4, h5, h6⟩ := ih vs _ _ h3 h2
      refine ⟨ov2, tm2, ?_, h5, h6⟩
      simp only [puts]
      rw [putFr_def, h1]; exact h4
theorem unpS_ok {C : Nat → CallF} {call : SCall} (hcall : SOk C call) : SOk (fun n => unp (C n)) (unpS call) := by
  intro f a h k hk
  obtain ⟨n, r, h1, h2⟩ := hcall _ _ _ _ hk
  refine ⟨n, ?_⟩
  unfold unp
  simp only [h1]
  split at h2
  · rename_i v h'
    obtain ⟨h3, h4⟩ := need_spec h2
    exact ⟨_, by simp only [h3, cond_true], h4⟩
  · exact ⟨_, rfl, h2⟩
  · exact h2.elim
theorem unp_fam {C : Nat → CallF} (hC : Fam C) : Fam (fun n => unp (C n)) := ⟨fun n m h => unp_mono (hC.le n m h)⟩
theorem sDraw_sound {C : Nat → CallF} (hC : Fam C) {call : SCall} (hcall : SOk C call) {ops : Array Oper} {fr : Fr} {h : Hp} {k : Ex → Fr → Hp → Prop} (he : sDraw E call ops fr h k) {tm : Tr Value} (hs : Sub fr.tm tm) :
    ∃ n e ov tm' h', evDraw E.P (C n) ops ⟨tm, fr.nt, fr.df⟩ h = some (e, ⟨tm', fr.nt, fr.df⟩, h') ∧ Sub ov tm' ∧ k e ⟨ov, fr.nt, fr.df⟩ h' := by
  unfold sDraw at he
  obtain ⟨h1, he⟩ := need_spec he
  rw [msK_eq, nfHp_eq] at he
  obtain ⟨n, s, more, h2, h3, h4, h5⟩ := sPass_sound E (unp_fam hC) (unpS_ok hcall) hs _ _ _ he rfl
  obtain ⟨h6, h7⟩ := sLook2_sound E hs _ _ h3 h5
  obtain ⟨h8, h9⟩ := need_spec h7
  split at h9
  · rename_i hm e hlast hend
    obtain ⟨ov0, tm0, f1, _, f3⟩ := sPuts_sound _ _ _ _ h9 hs
    obtain ⟨ov, tm', g1, g2, g3⟩ := sPuts_sound _ _ _ _ f3 hs
    rw [nfHp_eq] at g3
    refine ⟨n, e, ov, tm', _, ?_, g2, g3⟩
    unfold evDraw
    simp only [h1, cond_true, h2, h6, h8, Bool.and_self, hlast, f1, hend, g1, nfHp_eq]
  · exact h9.elim
def codeAt (c0 : Code) : List Nat → Option Code
  | [] => some c0
  | i :: p =>
    match codeAt c0 p with
    | some (.seq x y) => (match i with | 0 => some x | _ => some y)
    | some (.cond _ x y) => (match i with | 0 => some x | _ => some y)
    | some (.block _ c) => some c
    | some (.loop c) => some c
    | _ => none
open Classical in
noncomputable def oOf : CallF := fun f args h =>
  match E.O f args h with
  | some x => some x
  | none =>
  match E.T f args h with
  | some (p, v, h') => if p then some (endV v, h') else none
  | none => none
open Classical in
theorem oOf_none (hO : E.O = fun _ _ _ => none) (f : FuncId) (args : List Value) (h : Hp) : oOf E f args h = match E.T f args h with
    | some (p, v, h') => if p then some (endV v, h') else none
    | none => none := by unfold oOf; rw [hO]
theorem sEnd_eq (v : Value) (k : Ev.End → Prop) : sEnd v k → k (endV v) := by
  intro h
  unfold sEnd at h
  unfold endV
  split at h
  · rename_i c x t a b
    cases c with
    | true => exact h
    | false => exact h
  · rename_i c x t a b d t2 s n
    cases c with
    | true => exact h
    | false =>
      cases d with
      | true => exact h
      | false => exact h
  · exact h
def OkC (it : Bool) (c : Code) (fr : Fr) (u : Option FrameMode) (h : Hp) (K : KO) : Prop :=
  ∀ tm, Sub fr.tm tm → ∃ n x, ev E.P (oOf E) n it c ⟨tm, fr.nt, fr.df⟩ u h = some x ∧ KS K x
def LOk : Prop := ∀ f p spec fn c0 c, E.L f p = some spec → E.P.funcs[f]? = some fn → fn.body = some c0 → codeAt c0 p = some c → ∀ fr u h K, spec fr u h K → OkC E false c fr u h K
def SevOk (rec : SRec) : Prop := ∀ f fn c0, E.P.funcs[f]? = some fn → fn.body = some c0 → ∀ p it c fr u h K, codeAt c0 p = some (if it then .loop c else c) → rec f p it c fr u h K → OkC E it c fr u h K
theorem fam : Fam fun n => callO E.P (oOf E) (ev E.P (oOf E) n) := ⟨fun _ _ h => callO_mono _ (ev_le _ h)⟩
theorem sRes_sound {rows : Tr Row} {ov tm : Tr Value} (hs : Sub ov tm) : ∀ (l : List ResultVar) (k : List Value → Prop), sRes E rows ov l k → ∃ vs, aRes E.P rows tm l = some vs ∧ k vs := by
  intro l
  induction l with
  | nil => intro k h; exact ⟨[], rfl, h⟩
  | cons r l ih =>
    intro k h
    cases r with
    | tmp t =>
      simp only [sRes] at h
      split at h
      · rename_i v hv
        rw [nv_eq] at h
        obtain ⟨vs, h1, h2⟩ := ih _ h
        exact ⟨v :: vs, by simp [aRes, h1, hs _ _ hv], h2⟩
      · exact h.elim
    | cell c t =>
      simp only [sRes] at h
      split at h
      · rename_i a ha
        obtain ⟨v, h1, h2⟩ := sLoad_sound E h
        rw [nv_eq] at h2
        obtain ⟨vs, h3, h4⟩ := ih _ h2
        exact ⟨v :: vs, by simp [aRes, h3, hs _ _ ha, h1], h4⟩
      · exact h.elim
theorem sResults_sound {rows : Tr Row} {ov tm : Tr Value} (hs : Sub ov tm) {fn : Func} {k : Value → Prop} (h : sResults E rows ov fn k) : ∃ v, aResults E.P rows tm fn = some v ∧ k v := by
  unfold sResults at h
  obtain ⟨vs, h1, h2⟩ := sRes_sound E hs _ _ h
  unfold aResults
  rw [h1]
  match vs, h2 with
  | [], h2 => exact ⟨_, rfl, h2⟩
  | [v], h2 => exact ⟨_, rfl, h2⟩
  | a :: b :: c, h2 => exact ⟨_, rfl, h2⟩
theorem ev_up {n m : Nat} (h : n ≤ m) {it : Bool} {c : Code} {fr : Fr} {u : Option FrameMode} {hp : Hp} {x : Out4} (he : ev E.P (oOf E) n it c fr u hp = some x) : ev E.P (oOf E) m it c fr u hp = some x := ev_le _ h _ _ _ _ _ _ he
theorem leaves_up {n m : Nat} (h : n ≤ m) {fn : Func} {tm : Tr Value} {ds : List Deferred} {u : FrameMode} {hp : Hp} {x : Ev.End × Hp} (he : leaves E.P (ev E.P (oOf E) n) fn tm ds u hp = some x) : leaves E.P (ev E.P (oOf E) m) fn tm ds u hp = some x := leaves_mono (ev_le _ h) fn tm ds u hp x he
theorem noGo_drop : ∀ (l : List PanicEntry), noGo l = true → l.dropWhile (!·.goexit) = []
  | [], _ => rfl
  | e :: l, h => by
    simp only [noGo, List.all_cons, Bool.and_eq_true] at h
    rw [List.dropWhile_cons, if_pos h.1]
    exact noGo_drop l h.2
theorem sSettle_eq (u : FrameMode) (k : FrameMode → Prop) (h : sSettle E u k) : k (settle u) := by
  unfold sSettle at h
  split at h
  · exact h
  · split at h
    · rename_i older
      obtain ⟨h1, h2⟩ := h
      have := noGo_drop _ h1
      simp only [settle, this]
      exact h2
    · rename_i hne
      unfold settle
      split
      · rename_i older; exact absurd rfl (hne _ _ _)
      · exact h
theorem sLeaves_cons {rec : SRec} {fn : Func} {tm : Tr Value} {d : Deferred} {ds : List Deferred} {u : FrameMode} {h : Hp} {k : Ev.End × Hp → Prop} {f : FuncId} {cap : Array Value} (hd : d.target = .fn (.func f) cap) (hu : u ≠ .run) :
    sLeaves E rec fn tm (d :: ds) u h k = need (okFn E.P f) (match E.P.funcs[f]? with
        | some fn' =>
          match fn'.body with
          | some c =>
            need (Nat.ble (d.args.toList ++ cap.toList).length fn'.ntmps && Nat.ble fn'.ntmps 1000000) <|
              rec f [] false c ⟨ofL (d.args.toList ++ cap.toList) 0 .leaf, fn'.ntmps, []⟩ (some u) h fun x =>
                match x with
                | (.normal, ⟨tm', _, []⟩, some u', h') => sResults E h'.rows tm' fn' fun _ => sSettle E u' fun m => sLeaves E rec fn tm ds m h' k
                | (.ret, ⟨tm', _, []⟩, some u', h') => sResults E h'.rows tm' fn' fun _ => sSettle E u' fun m => sLeaves E rec fn tm ds m h' k
                | (.panic ch, ⟨_, _, []⟩, some u', h') => sLeaves E rec fn tm ds (raised u' ch) h' k
                | _ => False
          | none => False
        | none => False) := by
  conv => lhs; rw [sLeaves.eq_def]
  simp only [hd]
  cases u with
  | run => exact absurd rfl hu
  | returning => rfl
  | panicking q => rfl
theorem sLeaves_sound {rec : SRec} (hrec : SevOk E rec) {fn : Func} {ov tm : Tr Value} (hs : Sub ov tm) {k : Ev.End × Hp → Prop} : ∀ (ds : List Deferred) (u : FrameMode) (h : Hp), sLeaves E rec fn ov ds u h k → ∃ n r, leaves E.P (ev E.P (oOf E) n) fn tm ds u h = some r ∧ k r := by
  intro ds
  induction ds with
  | nil =>
    intro u h he
    cases u with
    | run => exact he.elim
    | returning =>
      obtain ⟨v, g1, g2⟩ := sResults_sound E hs he
      exact ⟨0, _, by simp only [leaves, g1], g2⟩
    | panicking c => exact ⟨0, _, by simp only [leaves], he⟩
  | cons d ds ih =>
    intro u h he
    by_cases hnr : u = .run
    · subst hnr
      unfold sLeaves at he
      split at he <;> first | exact he.elim | simp_all
    · have key : ∃ f cap, d.target = .fn (.func f) cap := by
        unfold sLeaves at he
        split at he
        · exact he.elim
        · exact ⟨_, _, by assumption⟩
        · exact he.elim
      obtain ⟨f, cap, hd⟩ := key
      rw [sLeaves_cons E hd hnr] at he
      obtain ⟨h0, he⟩ := need_spec he
      split at he
      · rename_i fn' hf
        split at he
        · rename_i c hb
          obtain ⟨h1, he⟩ := need_spec he
          obtain ⟨n, x, h2, ov2, h3, h4⟩ := hrec f fn' c hf hb [] false c _ _ _ _ rfl he _ (Sub.refl _)
          obtain ⟨e, ⟨tm2, nt2, df2⟩, u', h'⟩ := x
          simp only at h3 h4
          have base : ∀ (m : Nat) (r : Ev.End × Hp), n ≤ m → (match (some (e, (⟨tm2, nt2, df2⟩ : Fr), u', h') : Option Out4) with
              | some (.normal, ⟨tm', _, []⟩, some u', h') => (match aResults E.P h'.rows tm' fn' with | some _ => leaves E.P (ev E.P (oOf E) m) fn tm ds (settle u') h' | none => none)
              | some (.ret, ⟨tm', _, []⟩, some u', h') => (match aResults E.P h'.rows tm' fn' with | some _ => leaves E.P (ev E.P (oOf E) m) fn tm ds (settle u') h' | none => none)
              | some (.panic ch, ⟨_, _, []⟩, some u', h') => leaves E.P (ev E.P (oOf E) m) fn tm ds (raised u' ch) h'
              | _ => none) = some r → leaves E.P (ev E.P (oOf E) m) fn tm (d :: ds) u h = some r := by
            intro m r hnm hr
            have h2' : ev E.P (oOf E) m false c ⟨ofL (d.args.toList ++ cap.toList) 0 .leaf, fn'.ntmps, []⟩ (some u) h = _ := ev_up E hnm h2
            unfold leaves
            cases u with
            | run => exact absurd rfl hnr
            | returning => simp only [hd, h0, cond_true, hf, hb, h1, h2']; exact hr
            | panicking q => simp only [hd, h0, cond_true, hf, hb, h1, h2']; exact hr
          cases df2 with
          | cons => cases e <;> exact h4.elim
          | nil =>
            cases u' with
            | none => cases e <;> exact h4.elim
            | some u' =>
              cases e with
              | exit => exact h4.elim
              | normal =>
                obtain ⟨v, g1, g2⟩ := sResults_sound E h3 h4
                obtain ⟨m, r, g3, g4⟩ := ih _ _ (sSettle_eq E _ _ g2)
                exact ⟨max n m, r, base _ _ (Nat.le_max_left _ _) (by show (match aResults E.P h'.rows tm2 fn' with | some _ => leaves E.P (ev E.P (oOf E) (max n m)) fn tm ds (settle u') h' | none => none) = some r; rw [g1]; exact leaves_up E (Nat.le_max_right _ _) g3), g4⟩
              | ret =>
                obtain ⟨v, g1, g2⟩ := sResults_sound E h3 h4
                obtain ⟨m, r, g3, g4⟩ := ih _ _ (sSettle_eq E _ _ g2)
                exact ⟨max n m, r, base _ _ (Nat.le_max_left _ _) (by show (match aResults E.P h'.rows tm2 fn' with | some _ => leaves E.P (ev E.P (oOf E) (max n m)) fn tm ds (settle u') h' | none => none) = some r; rw [g1]; exact leaves_up E (Nat.le_max_right _ _) g3), g4⟩
              | panic ch =>
                obtain ⟨m, r, g3, g4⟩ := ih _ _ h4
                exact ⟨max n m, r, base _ _ (Nat.le_max_left _ _) (leaves_up E (Nat.le_max_right _ _) g3), g4⟩
        · exact he.elim
      · exact he.elim
theorem sCallF_sound {rec : SRec} (hrec : SevOk E rec) : SOk (fun n => callO E.P (oOf E) (ev E.P (oOf E) n)) (sCallF E rec) := by
  intro f a h k hc
  unfold sCallF at hc
  split at hc
  · rename_i x ho
    refine ⟨0, _, ?_, hc⟩
    simp only [callO, oOf, ho]
  rename_i hno
  split at hc
  · rename_i p v h' ht
    refine ⟨0, _, ?_, sEnd_eq _ _ hc.2⟩
    simp only [callO, oOf, hno, ht, if_pos hc.1]
  · rename_i ht
    split at hc
    · rename_i fn hf
      split at hc
      · rename_i c hb
        obtain ⟨h1, hc⟩ := need_spec hc
        obtain ⟨n, x, h2, ov, h3, h4⟩ := hrec f fn c hf hb [] false c _ _ _ _ rfl hc _ (Sub.refl _)
        obtain ⟨e, ⟨tm, nt, df⟩, u', h'⟩ := x
        simp only at h3 h4
        have base : ∀ (m : Nat) (r : Ev.End × Hp), n ≤ m → (match (some (e, (⟨tm, nt, df⟩ : Fr), u', h') : Option Out4) with
            | some (.normal, fr, _, h') => leaves E.P (ev E.P (oOf E) m) fn fr.tm fr.df .returning h'
            | some (.ret, fr, _, h') => leaves E.P (ev E.P (oOf E) m) fn fr.tm fr.df .returning h'
            | some (.panic ch, fr, _, h') => leaves E.P (ev E.P (oOf E) m) fn fr.tm fr.df (.panicking ch) h'
            | _ => none) = some r → callO E.P (oOf E) (ev E.P (oOf E) m) f a h = some r := by
          intro m r hnm hr
          have h2' := ev_up E hnm h2
          simp only [callO, oOf, hno, ht, callF, hf, hb, h1, cond_true, h2']
          exact hr
        cases e with
        | normal =>
          obtain ⟨m, r, g1, g2⟩ := sLeaves_sound E hrec h3 _ _ _ h4
          exact ⟨max n m, r, base _ _ (Nat.le_max_left _ _) (leaves_up E (Nat.le_max_right _ _) g1), g2⟩
        | ret =>
          obtain ⟨m, r, g1, g2⟩ := sLeaves_sound E hrec h3 _ _ _ h4
          exact ⟨max n m, r, base _ _ (Nat.le_max_left _ _) (leaves_up E (Nat.le_max_right _ _) g1), g2⟩
        | panic ch =>
          obtain ⟨m, r, g1, g2⟩ := sLeaves_sound E hrec h3 _ _ _ h4
          exact ⟨max n m, r, base _ _ (Nat.le_max_left _ _) (leaves_up E (Nat.le_max_right _ _) g1), g2⟩
        | exit j => exact h4.elim
      · exact hc.elim
    · exact hc.elim
theorem sRound_sound {rec : SRec} (hrec : SevOk E rec) {f : FuncId} {fn : Func} {c0 : Code} (hf : E.P.funcs[f]? = some fn) (hb : fn.body = some c0) {p : List Nat} {c : Code} (hp : codeAt c0 p = some (.loop c)) {fr : Fr} {u : Option FrameMode} {h : Hp} {K : KO}
    (he : sRound rec f p c fr u h K) : ∀ tm, Sub fr.tm tm → ∃ n x, round (ev E.P (oOf E) n) c ⟨tm, fr.nt, fr.df⟩ u h = some x ∧ KS K x := by
  intro tm hs
  unfold sRound at he
  obtain ⟨n, x, h1, ov, h2, h3⟩ := hrec f fn c0 hf hb (0 :: p) false c _ _ _ _ (by simp [codeAt, hp]) he tm hs
  obtain ⟨e, ⟨tm', nt, df⟩, u', h'⟩ := x
  cases e with
  | normal =>
    obtain ⟨m, y, h4, h5⟩ := hrec f fn c0 hf hb p true c _ _ _ _ (by simpa using hp) h3 tm' h2
    refine ⟨max n m, y, ?_, h5⟩
    simp only [round, ev_up E (Nat.le_max_left n m) h1]
    exact ev_up E (Nat.le_max_right n m) h4
  | _ => exact ⟨n, _, by simp only [round, h1], ov, h2, h3⟩
theorem sStep_sound (hL : LOk E) {rec : SRec} (hrec : SevOk E rec) : SevOk E (sStep E rec) := by
  intro f fn c0 hf hb p it c fr u h K hp he
  cases it with
  | true =>
    intro tm hs
    obtain ⟨n, x, h1, h2⟩ := sRound_sound E hrec hf hb (by simpa using hp) he tm hs
    exact ⟨n + 1, x, h1, h2⟩
  | false =>
    simp only [sStep] at he
    simp only [Bool.false_eq_true, if_false] at hp
    split at he
    · rename_i spec hsp
      exact hL f p spec fn c0 c hsp hf hb hp fr u h K he
    · intro tm hs
      cases c with
      | skip => exact ⟨1, _, rfl, fr.tm, hs, he⟩
      | ret => exact ⟨1, _, rfl, fr.tm, hs, he⟩
      | exit id => exact ⟨1, _, rfl, fr.tm, hs, he⟩
      | loop c =>
        obtain ⟨n, x, h1, h2⟩ := sRound_sound E hrec hf hb hp he tm hs
        exact ⟨n + 1, x, h1, h2⟩
      | seq a b =>
        obtain ⟨n, x, h1, ov, h2, h3⟩ := hrec f fn c0 hf hb (0 :: p) false a _ _ _ _ (by simp [codeAt, hp]) he tm hs
        obtain ⟨e, ⟨tm', nt, df⟩, u', h'⟩ := x
        cases e with
        | normal =>
          obtain ⟨m, y, h4, h5⟩ := hrec f fn c0 hf hb (1 :: p) false b _ _ _ _ (by simp [codeAt, hp]) h3 tm' h2
          refine ⟨max n m + 1, y, ?_, h5⟩
          simp only [ev, evStep, ev_up E (Nat.le_max_left n m) h1]
          exact ev_up E (Nat.le_max_right n m) h4
        | _ => exact ⟨n + 1, _, by simp only [ev, evStep, h1], ov, h2, h3⟩
      | cond x a b =>
        simp only at he
        split at he
        · rename_i bb hx
          have hx' := kv_le hs _ _ hx
          rcases br_spec he with ⟨rfl, hh⟩ | ⟨rfl, hh⟩
          · obtain ⟨ov, h1, h2⟩ := sLit_sound hh hs hx
            obtain ⟨n, y, h3, h4⟩ := hrec f fn c0 hf hb (0 :: p) false a _ _ _ _ (by simp [codeAt, hp]) h2 tm h1
            exact ⟨n + 1, y, by simp only [ev, evStep, hx']; exact h3, h4⟩
          · obtain ⟨ov, h1, h2⟩ := sLit_sound hh hs hx
            obtain ⟨n, y, h3, h4⟩ := hrec f fn c0 hf hb (1 :: p) false b _ _ _ _ (by simp [codeAt, hp]) h2 tm h1
            exact ⟨n + 1, y, by simp only [ev, evStep, hx']; exact h3, h4⟩
        · exact he.elim
      | block id c =>
        obtain ⟨n, x, h1, ov, h2, h3⟩ := hrec f fn c0 hf hb (0 :: p) false c _ _ _ _ (by simp [codeAt, hp]) he tm hs
        obtain ⟨e, ⟨tm', nt, df⟩, u', h'⟩ := x
        cases e with
        | exit j =>
          simp only at h3
          cases hj : Nat.beq j id with
          | true => rw [hj] at h3; exact ⟨n + 1, (.normal, ⟨tm', nt, df⟩, u', h'), by simp only [ev, evStep, h1, hj, cond_true], ov, h2, h3⟩
          | false => rw [hj] at h3; exact ⟨n + 1, (.exit j, ⟨tm', nt, df⟩, u', h'), by simp only [ev, evStep, h1, hj, cond_false], ov, h2, h3⟩
        | _ => exact ⟨n + 1, _, by simp only [ev, evStep, h1], ov, h2, h3⟩
      | region id ops d =>
        cases d with
        | false =>
          obtain ⟨n, x, h1, h2⟩ := sSeq_sound E (fam E) (sCallF_sound E hrec) ops _ _ _ _ tm he hs
          exact ⟨n + 1, x, h1, h2⟩
        | true =>
          obtain ⟨n, ex, ov, tm', h', h1, h2, h3⟩ := sDraw_sound E (fam E) (sCallF_sound E hrec) he hs
          exact ⟨n + 1, (ex, ⟨tm', fr.nt, fr.df⟩, u, h'), by simp only [ev, evStep, h1], ov, h2, h3⟩
      | _ => exact he.elim
theorem sev_sound (hL : LOk E) : ∀ n, SevOk E (sev E n)
  | 0 => fun _ _ _ _ _ _ _ _ _ _ _ _ _ h => h.elim
  | n + 1 => sStep_sound E hL (sev_sound hL n)
end
end
end Go.Sy
namespace Go.Sy
noncomputable section
open Go.Ev Go.RowKit
def Flat (P : Program) (f : FuncId) (args : List Value) (v : Value) : Prop :=
  ∀ w, TabW w → Calls P f args.toArray w fun e w' => e = .returned v ∧ Below w.heap.size w w'
section
variable {E : Env}
theorem wr_below {B : Base} {μ : Mu} {F : Nat → Option Row} {n : Nat} {w w' : World} (hw : WR B μ F n w) (hb : Below w.heap.size w w') : WR B μ F n w' ∧ Keep μ F w μ F w' := by
  obtain ⟨h1, h2, h3, h4, h5⟩ := hb
  refine ⟨⟨fun b hb => hw.base b (Nat.le_trans h4 hb), hw.hole, hw.fresh, fun r row hr hvd => ?_, hw.vrow, hw.apart, fun z i b o s hm => ⟨(hw.gho z i b o s hm).1.kept (Le.refl _) (h5 b (hw.gho z i b o s hm).1.lt), (hw.gho z i b o s hm).2⟩, hw.gfr, hw.tab.kept (fun b hb _ => h5 b hb)⟩, ⟨h1, h2, h3, h4, fun b hb _ => h5 b hb, fun b hb => .inl hb, fun _ _ _ _ _ h => .inl h⟩⟩
  exact (hw.rows r row hr hvd).kept (Le.refl _) fun b o s hm => h5 b ((hw.rows r row hr hvd).lt hm)
theorem flat_args {μ : Mu} {args : List Value} {args' : Array Value} (hf : args.all (flat 12) = true) (hv : VRs μ args args'.toList) : args' = args.toArray := by
  apply Array.ext'
  apply List.ext_getElem?
  intro i
  rw [List.all_eq_true] at hf
  cases h1 : args[i]? with
  | none =>
    have := hv.1
    rw [List.getElem?_eq_none_iff] at h1 ⊢
    omega
  | some v =>
    obtain ⟨v', h2, h3⟩ := hv.get h1
    rw [h2, flat_eq _ _ _ (hf v (List.mem_of_getElem? h1)) h3]
theorem wf64 {n : Int} (h : (Lit.int .i64 n).wf = true) : -9223372036854775808 ≤ n ∧ n ≤ 9223372036854775807 := by
  simp only [Lit.wf, Bool.and_eq_true, decide_eq_true_eq] at h
  exact h
theorem lok_none (h : ∀ f p, E.L f p = none) : LOk E := fun f p _ _ _ _ hl => by rw [h] at hl; simp at hl
end
end
end Go.Sy
