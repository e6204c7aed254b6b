/- An evaluator of the model's code, sound for every world: part 9. -/
import Derived.Test.YtagahikocoggcaaSy2
import Derived.Test.YtagahikocoggcaaEv6
import Derived.ChangeSlices
/-
  Conditions, fourth part: rows of operations, code, calls.
-/
namespace Go.Sy
open Go.Ev Go.RowKit

def Sub (ov tm : Tr Value) : Prop := ∀ i v, ov.find i = some v → tm.find i = some v
theorem Sub.refl (t : Tr Value) : Sub t t := fun _ _ h => h
theorem kv_le {ov tm : Tr Value} (h : Sub ov tm) : RLe (kv ov) (opV tm) := by
  intro x v hx
  cases x with
  | tmp t => simp only [kv] at hx; simp only [opV, h _ _ hx]
  | const c => exact hx
  | func f => exact hx
  | global g => simp [kv] at hx
theorem Sub.put {ov tm : Tr Value} (h : Sub ov tm) {d : Nat} (hd : d < Tr.top) (v : Value) : Sub (ov.put d (some v)) (tm.put d (some v)) := by
  intro i w hw
  rw [Tr.find_put _ _ _ _ hd] at hw ⊢
  split at hw
  · rename_i e; rw [if_pos e]; exact hw
  · rename_i e; rw [if_neg e]; exact h _ _ hw
theorem Sub.lit {ov tm : Tr Value} (h : Sub ov tm) {d : Nat} (hd : d < Tr.top) {v : Value} (hv : tm.find d = some v) : Sub (ov.put d (some v)) tm := by
  intro i w hw
  rw [Tr.find_put _ _ _ _ hd] at hw
  split at hw
  · rename_i e; rw [e, hv]; exact hw
  · exact h _ _ hw

section
variable (E : Env)

theorem sPut_sound {fr : Fr} {dst : Option Tmp} {v : Value} {k : Fr → Prop} (h : sPut fr dst v k) {tm : Tr Value} (hs : Sub fr.tm tm) :
    ∃ ov tm', putFr ⟨tm, fr.nt, fr.df⟩ dst v some = some ⟨tm', fr.nt, fr.df⟩ ∧ Sub ov tm' ∧ k ⟨ov, fr.nt, fr.df⟩ := by
  unfold sPut at h
  unfold putFr
  cases dst with
  | none => exact ⟨fr.tm, tm, rfl, hs, h⟩
  | some d =>
    simp only at h ⊢
    cases hb : (Nat.blt d fr.nt && Nat.blt d Tr.top) with
    | false => rw [hb] at h; exact h.elim
    | true =>
      rw [hb] at h
      simp only [cond_true] at h ⊢
      rw [Tr.putK_eq] at h ⊢
      simp only [Bool.and_eq_true] at hb
      exact ⟨_, _, rfl, hs.put (Nat.le_of_ble_eq_true hb.2) v, h⟩

theorem sLit_sound {fr : Fr} {x : Operand} {b : Bool} {k : Fr → Prop} (h : sLit fr x b k) {tm : Tr Value} (hs : Sub fr.tm tm) (hx : kv fr.tm x = some (.bool b)) :
    ∃ ov, Sub ov tm ∧ k ⟨ov, fr.nt, fr.df⟩ := by
  unfold sLit at h
  split at h
  · rename_i d
    cases hb : Nat.blt d Tr.top with
    | false => rw [hb] at h; exact ⟨fr.tm, hs, h⟩
    | true =>
      rw [hb] at h
      simp only [cond_true] at h
      rw [Tr.putK_eq] at h
      exact ⟨_, hs.lit (Nat.le_of_ble_eq_true hb) (hs _ _ hx), h⟩
  · exact ⟨fr.tm, hs, h⟩

theorem sWant_sound {ops : Array Oper} {o : Oper} {fr : Fr} {k : Fr → Bool → Prop} (h : sWant ops o fr k) {tm : Tr Value} (hs : Sub fr.tm tm) :
    ∃ ov, Sub ov tm ∧ k ⟨ov, fr.nt, fr.df⟩ (wantB tm ops o) := by
  unfold sWant at h
  unfold wantB
  split at h
  · rename_i e; rw [e]; exact ⟨fr.tm, hs, h⟩
  · rename_i j want e
    rw [e]
    unfold yb
    simp only
    split at h
    · rename_i oj hj
      rw [hj]; simp only
      split at h
      · rename_i d hd
        rw [hd]; simp only
        split at h
        · rename_i b hb
          rw [hs _ _ hb]; simp only
          rcases br_spec h with ⟨rfl, hh⟩ | ⟨rfl, hh⟩
          · obtain ⟨ov, h1, h2⟩ := sLit_sound hh hs hb
            refine ⟨ov, h1, ?_⟩
            cases want <;> exact h2
          · obtain ⟨ov, h1, h2⟩ := sLit_sound hh hs hb
            refine ⟨ov, h1, ?_⟩
            cases want <;> exact h2
        · rename_i v hne hv
          rw [hs _ _ hv]
          refine ⟨fr.tm, hs, ?_⟩
          cases v <;> first | exact h | exact absurd rfl (hne _)
        · exact h.elim
      · rename_i hd; rw [hd]; exact ⟨fr.tm, hs, h⟩
    · rename_i hj; rw [hj]; exact ⟨fr.tm, hs, h⟩

theorem aAppend_mono {P : Program} {ρ ρ' : Operand → Option Value} (hl : RLe ρ ρ') {h : Hp} {c : Call} {v : Value × Hp} (he : aAppend P h c ρ = some v) : aAppend P h c ρ' = some v := by
  unfold aAppend at he ⊢
  split at he
  · rename_i s x sT xT e1 e2
    cases hs : ρ s with
    | none => rw [hs] at he; cases h1 : P.underlying sT <;> cases h2 : P.underlying xT <;> simp [h1, h2] at he
    | some a =>
      cases hx : ρ x with
      | none => rw [hs, hx] at he; cases h1 : P.underlying sT <;> cases h2 : P.underlying xT <;> simp [h1, h2] at he
      | some b => rw [hs, hx] at he; rw [hl _ _ hs, hl _ _ hx]; exact he
  · simp at he

theorem sPutCells_sound {rows : Tr Row} {r i : Nat} {vs : List Value} {k : Tr Row → Prop} (h : sPutCells E rows r i vs k) : ∃ t, putCells rows r i vs = some t ∧ k t := by
  unfold sPutCells at h
  split at h
  · split at h
    · rename_i t ht; exact ⟨t, ht, h⟩
    · exact h.elim
  · split at h
    · rename_i cells hr
      obtain ⟨h1, h⟩ := need_spec h
      obtain ⟨h2, h⟩ := need_spec h
      simp only [decide_eq_true_eq] at h1
      simp only [Bool.and_eq_true] at h2
      refine ⟨_, ?_, h⟩
      have : Nat.ble (i + vs.length) cells.length = true := Nat.ble_eq_true_of_le h1
      simp only [putCells, hr, this, h2.1, h2.2, Bool.and_self, cond_true]
      rw [wrK_eq _ _ _ _ h1]
    · exact h.elim

theorem sE_sound {ρ ρ' : Operand → Option Value} (hl : RLe ρ ρ') {h : Hp} {o : Oper} {k : Res → Hp → Prop} (he : sE E ρ h o k) : ∃ r h', evE E.P ρ' h o = some (r, h') ∧ k r h' := by
  unfold sE at he
  unfold evE
  split at he
  · rename_i t a x e; rw [e]
    split at he
    · rename_i av xv ha hx
      simp only [hl _ _ ha, hl _ _ hx]
      unfold sStore at he
      split at he
      · rename_i r i m hm
        obtain ⟨h1, he⟩ := need_spec he
        obtain ⟨t', h2, h3⟩ := sPutCells_sound E he
        refine ⟨_, _, ?_, h3⟩
        simp only [aStore, hm, h1, cond_true, h2]
      · exact he.elim
    · exact he.elim
  · rename_i t l c e; rw [e]
    split at he
    · rename_i lv cv h1 h2
      simp only [hl _ _ h1, hl _ _ h2]
      split at he
      · rename_i v h' hm; rw [hm]; exact ⟨_, _, rfl, he⟩
      · exact he.elim
    · exact he.elim
  · rename_i c e; rw [e]
    simp only
    split at he
    · rename_i hc; rw [hc]
      split at he
      · rename_i v h' hm; simp only [aAppend_mono hl hm]; exact ⟨_, _, rfl, he⟩
      · exact he.elim
    · rename_i f hc; rw [hc]
      split at he
      · rename_i fid a b d hm; simp only [aCall_mono hl hm]; exact ⟨_, _, rfl, he⟩
      · exact he.elim
    · exact he.elim
  · rename_i x e; rw [e]
    split at he
    · rename_i t v hx; simp only [hl _ _ hx]; exact ⟨_, _, rfl, he⟩
    · exact he.elim
  · rename_i src dst x e; rw [e]
    split at he
    · rename_i xv hx
      simp only [hl _ _ hx]
      split at he
      · rename_i v h' hm; rw [hm]; exact ⟨_, _, rfl, he⟩
      · exact he.elim
    · exact he.elim
  · exact he.elim

theorem isBytes_spec {ρ ρ' : Operand → Option Value} (hl : RLe ρ ρ') {rows : Tr Row} {o : Oper} (h : isBytes E ρ rows o = true) : rowless o = false ∧ evQ E.P ρ' rows o = none := by
  unfold isBytes at h
  split at h
  · rename_i src dst x e
    split at h
    · rename_i s hx
      split at h
      · rename_i hq
        refine ⟨by simp [rowless, e], ?_⟩
        have hx' := hl _ _ hx
        have key : evPure E.P ρ o = evPure E.P ρ' o := by
          have hsel : ∀ a b, o.op ≠ .select a b := fun a b e' => by rw [e] at e'; simp at e'
          rw [evPure_eq hsel, evPure_eq hsel]
          have f1 : flatAll ρ o.op.operands.toList = flatAll ρ' o.op.operands.toList := by simp [e, Op.operands, flatAll, hx, hx']
          have hc : execOp (fun x => (ρ x).getD undef) o = execOp (fun x => (ρ' x).getD undef) o :=
            execOp_congr o (fun cs b e => hsel cs b e) fun y hy => by
              rw [e] at hy
              simp [Op.operands] at hy
              subst hy
              simp only [hx, hx']
          rw [f1, hc]
        unfold evQ at hq ⊢
        rw [e] at hq ⊢
        simp only [evConv, hx, hx'] at hq ⊢
        rw [← key]; exact hq
      · simp at h
    · simp at h
  · simp at h

theorem sOp_sound {ρ ρ' : Operand → Option Value} (hl : RLe ρ ρ') {h : Hp} {o : Oper} {k : Res → Hp → Prop} (he : sOp E ρ h o k) : ∃ r h', evOp E.P ρ' h o = some (r, h') ∧ k r h' := by
  unfold sOp at he
  unfold evOp
  cases hk : kind o with
  | quiet =>
    rw [hk] at he
    obtain ⟨v, h1, h2⟩ := sQ_sound E hl he
    simp only [h1]; exact ⟨_, _, rfl, h2⟩
  | conv =>
    rw [hk] at he
    simp only at he
    cases hb : isBytes E ρ h.rows o with
    | true =>
      rw [hb] at he
      simp only [(isBytes_spec E hl hb).2]
      exact sE_sound E hl he
    | false =>
      rw [hb] at he
      obtain ⟨v, h1, h2⟩ := sQ_sound E hl he
      simp only [h1]; exact ⟨_, _, rfl, h2⟩
  | act => rw [hk] at he; exact sE_sound E hl he
  | new =>
    rw [hk] at he
    simp only at he ⊢
    split at he
    · rename_i cs ak ha
      rw [evA_mono hl ha]
      simp only
      cases hb : Nat.blt h.next Tr.top with
      | false => rw [hb] at he; exact he.elim
      | true => rw [hb] at he; exact ⟨_, _, rfl, he⟩
    · exact he.elim

/-- What a condition says of what comes out, some slots not told. -/
def KS (K : KO) (x : Out4) : Prop := ∃ ov, Sub ov x.2.1.tm ∧ K (x.1, ⟨ov, x.2.1.nt, x.2.1.df⟩, x.2.2.1, x.2.2.2)

/-- A family of calls, more with each number. -/
structure Fam (C : Nat → CallF) : Prop where
  le : ∀ n m, n ≤ m → CLe (C n) (C m)
def SOk (C : Nat → CallF) (call : SCall) : Prop := ∀ f a h k, call f a h k → ∃ n r, C n f a h = some r ∧ k r

theorem sSeq_sound {C : Nat → CallF} (hC : Fam C) {call : SCall} (hcall : SOk C call) (ops : Array Oper) {K : KO} : ∀ (l : List Oper) (fr : Fr) (u : Option FrameMode) (h : Hp) (tm : Tr Value), sSeq E call ops l fr u h K → Sub fr.tm tm →
    ∃ n x, evSeq E.P (C n) ops l ⟨tm, fr.nt, fr.df⟩ u h = some x ∧ KS K x := by
  intro l
  induction l with
  | nil => intro fr u h tm he hs; exact ⟨0, _, rfl, fr.tm, hs, he⟩
  | cons o rest ih =>
    intro fr u h tm he hs
    simp only [sSeq] at he
    obtain ⟨ov, hs, he⟩ := sWant_sound he hs
    have put : ∀ (v : Value) (h : Hp) (u : Option FrameMode), sPut ⟨ov, fr.nt, fr.df⟩ o.dst v (fun fr => sSeq E call ops rest fr u h K) →
        ∃ n x, putFr ⟨tm, fr.nt, fr.df⟩ o.dst v (fun fr => evSeq E.P (C n) ops rest fr u h) = some x ∧ KS K x := by
      intro v h u hp
      obtain ⟨ov', tm', h1, h2, h3⟩ := sPut_sound hp hs
      obtain ⟨n, x, h4, h5⟩ := ih _ _ _ _ h3 h2
      exact ⟨n, x, by rw [putFr_def, h1]; exact h4, h5⟩
    cases hw : wantB tm ops o with
    | false =>
      rw [hw] at he
      obtain ⟨n, x, h1, h2⟩ := put _ _ _ he
      exact ⟨n, x, by simp only [evSeq, hw]; exact h1, h2⟩
    | true =>
      rw [hw] at he
      obtain ⟨r, h', h1, h2⟩ := sOp_sound E (kv_le hs) he
      rw [nfHp_eq] at h2
      cases r with
      | val v =>
        simp only [nv_eq] at h2
        obtain ⟨n, x, h3, h4⟩ := put _ _ _ h2
        exact ⟨n, x, by simp only [evSeq, hw, h1, nfHp_eq, nfK_eq]; exact h3, h4⟩
      | skip =>
        obtain ⟨n, x, h3, h4⟩ := put _ _ _ h2
        exact ⟨n, x, by simp only [evSeq, hw, h1, nfHp_eq]; exact h3, h4⟩
      | enter f args =>
        obtain ⟨n1, y, h3, h4⟩ := hcall _ _ _ _ h2
        obtain ⟨e, h''⟩ := y
        cases e with
        | ret v =>
          simp only [nv_eq, nfHp_eq] at h4
          obtain ⟨n2, x, h5, h6⟩ := put _ _ _ h4
          refine ⟨max n1 n2, x, ?_, h6⟩
          simp only [evSeq, hw, h1, nfHp_eq]
          rw [hC.le n1 (max n1 n2) (by omega) _ _ _ _ h3]
          simp only [nfK_eq]
          exact putFr_mono (fun fr' r hr => evSeq_mono (hC.le n2 (max n1 n2) (by omega)) _ _ _ _ _ _ hr) h5
        | pan ch =>
          exact ⟨n1, (.panic ch, ⟨tm, fr.nt, fr.df⟩, u, h''), by simp only [evSeq, hw, h1, nfHp_eq, h3], ov, hs, h4⟩
      | panic v => exact ⟨0, (.panic [{ v, recovered := false }], ⟨tm, fr.nt, fr.df⟩, u, h'), by simp only [evSeq, hw, h1, nfHp_eq], ov, hs, h2⟩
      | defer d => exact h2.elim
      | recov => exact h2.elim

/-! ### Open orders -/
theorem ovr_same {l : List Value} {j : Nat} {v : Value} (h : l[j]? = some v) : ovr l j [v] = l := by
  obtain ⟨hj, hg⟩ := List.getElem?_eq_some_iff.1 h
  apply List.ext_getElem
  · rw [ovr_length _ _ _ (by simp; omega)]
  · intro i h1 h2
    have := ovr_get l j [v] (by simp; omega) i
    have e : (ovr l j [v])[i]? = l[i]? := by
      rw [this]
      split
      · rename_i hh
        simp at hh
        have : i = j := by omega
        subst this
        simp [h]
      · rfl
    rw [List.getElem?_eq_getElem h1, List.getElem?_eq_getElem h2] at e
    simpa using e

section
variable {l : List Oper} {ms : List Nat} {ov tm : Tr Value} {base : Nat}

theorem skV_le (hs : Sub ov tm) (vs : List Value) (i : Nat) : RLe (skV l ms ov vs i) (dV l ms tm vs i) := by
  intro x v hx
  cases x with
  | const c => exact hx
  | func f => exact hx
  | global g => simp [skV] at hx
  | tmp t =>
    simp only [skV] at hx
    simp only [dV]
    split at hx
    · rename_i e; rw [e]; simp only [hs _ _ hx]
    · rename_i j e; rw [e]
      simp only
      cases hb : Nat.testBit (mk ms i) j with
      | true => rw [hb] at hx; exact hx
      | false =>
        rw [hb] at hx
        simp only [cond_false] at hx ⊢
        cases hb2 : (Nat.testBit (mk ms j) i || Nat.beq j i) with
        | true => rw [hb2] at hx; simp only [cond_true] at hx ⊢; rw [hs _ _ hx]
        | false => rw [hb2] at hx; simp at hx

theorem dV_more (vs more : List Value) (i : Nat) : RLe (dV l ms tm vs i) (dV l ms tm (vs ++ more) i) := by
  intro x v hx
  cases x with
  | const c => exact hx
  | func f => exact hx
  | global g => simp [dV] at hx
  | tmp t =>
    simp only [dV] at hx ⊢
    cases e : wrOf l 0 t with
    | none => rw [e] at hx; exact hx
    | some j =>
      rw [e] at hx
      simp only at hx ⊢
      cases hb : Nat.testBit (mk ms i) j with
      | true =>
        rw [hb] at hx
        simp only [cond_true] at hx ⊢
        rw [List.getElem?_append_left (List.getElem?_eq_some_iff.1 hx).1]; exact hx
      | false => rw [hb] at hx; exact hx

theorem dWant_mono {ρ ρ' : Operand → Option Value} (hl : RLe ρ ρ') {o : Oper} {w : Bool} (h : dWant l ρ o = some w) : dWant l ρ' o = some w := by
  unfold dWant at h ⊢
  split at h
  · exact h
  · rename_i j want e
    split at h
    · rename_i oj hj
      split at h
      · rename_i d hd
        cases hx : ρ (.tmp d) with
        | none => rw [hx] at h; simp at h
        | some v => rw [hx] at h; rw [hl _ _ hx]; exact h
      · exact h
    · exact h

theorem sdWant_sound (hs : Sub ov tm) {s : Pass} {i : Nat} {o : Oper} {k : Pass → Bool → Prop} (h : sdWant l ms ov s i o k) : ∃ w, dWant l (dV l ms tm s.vs i) o = some w ∧ k s w := by
  unfold sdWant at h
  unfold dWant
  split at h
  · rename_i e; rw [e]; exact ⟨true, rfl, h⟩
  · rename_i j want e
    rw [e]; simp only
    split at h
    · rename_i oj hj
      rw [hj]; simp only
      split at h
      · rename_i d hd
        rw [hd]; simp only
        split at h
        · rename_i b hb
          rw [skV_le hs _ _ _ _ hb]
          simp only
          have fin : br b (k s want) (k s (!want)) → ∃ w, some (b == want) = some w ∧ k s w := by
            intro h
            rcases br_spec h with ⟨rfl, hh⟩ | ⟨rfl, hh⟩
            · exact ⟨want, by cases want <;> rfl, hh⟩
            · exact ⟨!want, by cases want <;> rfl, hh⟩
          split at h
          · rename_i j' hj'
            cases ht : Nat.testBit (mk ms i) j' with
            | false => rw [ht] at h; exact fin h
            | true =>
              rw [ht] at h
              simp only [cond_true] at h
              have hv : s.vs[j']? = some (.bool b) := by
                simp only [skV, hj', ht, cond_true] at hb; exact hb
              have hlt := (List.getElem?_eq_some_iff.1 hv).1
              refine fin ?_
              rcases br_spec h with ⟨rfl, hh⟩ | ⟨rfl, hh⟩
              · rw [wrK_eq _ _ _ _ (by simp; omega), ovr_same hv] at hh; exact hh
              · rw [wrK_eq _ _ _ _ (by simp; omega), ovr_same hv] at hh; exact hh
          · exact fin h
        · rename_i hb; rw [skV_le hs _ _ _ _ hb]; exact ⟨false, rfl, h⟩
        · rename_i hb; rw [skV_le hs _ _ _ _ hb]; exact ⟨false, rfl, h⟩
        · exact h.elim
      · rename_i hd; rw [hd]; exact ⟨false, rfl, h⟩
    · rename_i hj; rw [hj]; exact ⟨false, rfl, h⟩

/-- What the pass has seen of operations that look at no memory. -/
def Evd (P : Program) (l : List Oper) (ms : List Nat) (tm : Tr Value) (s : Pass) (i : Nat) (r : List Oper) : Prop :=
  ∀ (j : Nat) o, r[j]? = some o → rowless o = true → dWant l (dV l ms tm s.vs (i + j)) o = some true → ∃ rows v, evQ P (dV l ms tm s.vs (i + j)) rows o = some v ∧ s.vs[i + j]? = some v ∧ veq 20 v v = true

theorem kind_rowless {o : Oper} (h : rowless o = true) : kind o = .quiet ∨ kind o = .conv := by
  unfold rowless at h
  unfold kind
  cases hop : o.op with
  | binOp op _ _ _ _ => cases op <;> simp
  | call c =>
    rw [hop] at h
    obtain ⟨cl, as, ts⟩ := c
    cases cl <;> first | (simp at h; done) | skip
    rename_i b
    cases b <;> first | (simp at h; done) | simp
  | _ => first | (left; rfl) | (rw [hop] at h; simp at h; done)

theorem kind_act {o : Oper} (h : kind o = .act) : rowless o = false := by
  cases hr : rowless o with
  | false => rfl
  | true => rcases kind_rowless hr with h0 | h0 <;> rw [h0] at h <;> simp at h

theorem Evd.cons {P : Program} {s : Pass} {i : Nat} {o : Oper} {r : List Oper} (h : Evd P l ms tm s (i + 1) r)
    (h0 : rowless o = true → dWant l (dV l ms tm s.vs i) o = some true → ∃ rows v, evQ P (dV l ms tm s.vs i) rows o = some v ∧ s.vs[i]? = some v ∧ veq 20 v v = true) : Evd P l ms tm s i (o :: r) := by
  intro j o' ho hr hd
  cases j with
  | zero => simp at ho; subst ho; exact h0 hr hd
  | succ j =>
    simp at ho
    have := h j o' ho hr (by rw [show i + 1 + j = i + (j + 1) by omega]; exact hd)
    rw [show i + 1 + j = i + (j + 1) by omega] at this
    exact this

theorem sPass_sound {C : Nat → CallF} (hC : Fam C) {call : SCall} (hcall : SOk C call) (hs : Sub ov tm) {k : Pass → Prop} : ∀ (r : List Oper) (i : Nat) (s : Pass), sPass E call l ms ov base r i s k → s.vs.length = i →
    ∃ n s' more, pass E.P (C n) l ms tm base r i s = some s' ∧ k s' ∧ s'.vs = s.vs ++ more ∧ Evd E.P l ms tm s' i r := by
  intro r
  induction r with
  | nil => intro i s h _; exact ⟨0, s, [], rfl, h, by simp, fun j o h => by simp at h⟩
  | cons o rest ih =>
    intro i s h hlen
    simp only [sPass] at h
    obtain ⟨w, hw, h⟩ := sdWant_sound hs h
    -- the step, whatever the value
    have step : ∀ (v : Value) (hs' : List Hp) (es' : List Nat) (nw' : New), sPass E call l ms ov base rest (i + 1) ⟨s.vs ++ [v], hs', es', nw'⟩ k →
        ∃ n s' more, pass E.P (C n) l ms tm base rest (i + 1) ⟨s.vs ++ [v], hs', es', nw'⟩ = some s' ∧ k s' ∧ s'.vs = s.vs ++ (v :: more) ∧ Evd E.P l ms tm s' (i + 1) rest := by
      intro v hs' es' nw' h
      obtain ⟨n, s', more, h1, h2, h3, h4⟩ := ih _ _ h (by simp [hlen])
      exact ⟨n, s', more, h1, h2, by simp [h3], h4⟩
    have notRow : rowless o = false ∨ w = false → ∀ (s' : Pass) (more : List Value), s'.vs = s.vs ++ more → rowless o = true → dWant l (dV l ms tm s'.vs i) o = some true → ∃ rows v, evQ E.P (dV l ms tm s'.vs i) rows o = some v ∧ s'.vs[i]? = some v ∧ veq 20 v v = true := by
      intro hh s' more hv hr hd
      rcases hh with hh | hh
      · rw [hh] at hr; simp at hr
      · rw [hv] at hd
        have := dWant_mono (dV_more s.vs more i) hw
        rw [this, hh] at hd; simp at hd
    cases w with
    | false =>
      simp only [apK_eq] at h
      obtain ⟨n, s', more, h1, h2, h3, h4⟩ := step _ _ _ _ h
      exact ⟨n, s', undef :: more, by simp only [pass, hw]; exact h1, h2, h3, h4.cons (notRow (.inr rfl) s' _ h3)⟩
    | true =>
      simp only at h
      split at h
      · exact h.elim
      · rename_i hp hlast
        -- quiet ones
        have quiet : (kind o = .quiet ∨ kind o = .conv) → sQ E (skV l ms ov s.vs i) (addRows hp.rows base (Ev.seen ms s.es i) s.nw) o (fun v => nv v fun v => need (self 20 v) (apK s.vs [v] fun vs => sPass E call l ms ov base rest (i + 1) ⟨vs, s.hs, s.es, s.nw⟩ k)) →
            ∃ n s' more, pass E.P (C n) l ms tm base (o :: rest) i s = some s' ∧ k s' ∧ s'.vs = s.vs ++ more ∧ Evd E.P l ms tm s' i (o :: rest) := by
          intro hk hq
          obtain ⟨v, h1, h2⟩ := sQ_sound E (skV_le hs s.vs i) hq
          rw [nv_eq] at h2
          obtain ⟨hself, h2⟩ := need_spec h2
          rw [apK_eq] at h2
          obtain ⟨n, s', more, g1, g2, g3, g4⟩ := step _ _ _ _ h2
          refine ⟨n, s', v :: more, ?_, g2, g3, g4.cons fun hr hd => ?_⟩
          · simp only [pass, hw, hlast]
            rcases hk with hk | hk <;> rw [hk] <;> simp only [h1, nfK_eq] <;> exact g1
          · refine ⟨addRows hp.rows base (Ev.seen ms s.es i) s.nw, v, ?_, ?_, self_veq _ _ hself⟩
            · rw [g3]; exact evQ_mono1 (dV_more s.vs _ i) hr h1
            · rw [g3, List.getElem?_append_right (by omega)]; simp [hlen]
        -- those that act
        have acts : (kind o = .act ∨ (kind o = .conv ∧ evQ E.P (dV l ms tm s.vs i) (addRows hp.rows base (Ev.seen ms s.es i) s.nw) o = none)) → rowless o = false →
            need (s.es.all fun j => Nat.testBit (mk ms i) j) (sE E (skV l ms ov s.vs i) ⟨addRows hp.rows base (Ev.seen ms s.es i) s.nw, hp.next⟩ o fun r h' => nfHp h' fun h' =>
              match r with
              | .val v => nv v fun v => apK s.vs [v] fun vs => sPass E call l ms ov base rest (i + 1) ⟨vs, s.hs ++ [h'], s.es ++ [i], s.nw⟩ k
              | .skip => apK s.vs [undef] fun vs => sPass E call l ms ov base rest (i + 1) ⟨vs, s.hs ++ [h'], s.es ++ [i], s.nw⟩ k
              | .enter f args => call f args h' fun x =>
                match x with
                | (.ret v, h') => nfHp h' fun h' => nv v fun v => apK s.vs [v] fun vs => sPass E call l ms ov base rest (i + 1) ⟨vs, s.hs ++ [h'], s.es ++ [i], s.nw⟩ k
                | _ => False
              | _ => False) →
            ∃ n s' more, pass E.P (C n) l ms tm base (o :: rest) i s = some s' ∧ k s' ∧ s'.vs = s.vs ++ more ∧ Evd E.P l ms tm s' i (o :: rest) := by
          intro hk nr h
          obtain ⟨hall, h⟩ := need_spec h
          have go : ∀ (x : Option Pass), (bif s.es.all (fun j => Nat.testBit (mk ms i) j) then x else none) = x := fun x => by rw [hall]; rfl
          obtain ⟨rs, h', h1, h2⟩ := sE_sound E (skV_le hs s.vs i) h
          rw [nfHp_eq] at h2
          have fin : ∀ (n : Nat) (v : Value) (h'' : Hp) (s' : Pass) (more : List Value), passE (C n) (some (rs, h')) = some (v, h'') → pass E.P (C n) l ms tm base rest (i + 1) ⟨s.vs ++ [v], s.hs ++ [h''], s.es ++ [i], s.nw⟩ = some s' → k s' → s'.vs = s.vs ++ (v :: more) → Evd E.P l ms tm s' (i + 1) rest →
              ∃ n s' more, pass E.P (C n) l ms tm base (o :: rest) i s = some s' ∧ k s' ∧ s'.vs = s.vs ++ more ∧ Evd E.P l ms tm s' i (o :: rest) := by
            intro n v h'' s' more hp' g1 g2 g3 g4
            refine ⟨n, s', v :: more, ?_, g2, g3, g4.cons (notRow (.inl nr) s' _ g3)⟩
            rcases hk with hk | ⟨hk, hq⟩
            · simp only [pass, hw, hlast, hk, go, h1, hp', nfHp_eq, nfK_eq]
              exact g1
            · simp only [pass, hw, hlast, hk, hq, go, h1, hp', nfHp_eq, nfK_eq]
              exact g1
          cases rs with
          | val v =>
            simp only [nv_eq, apK_eq] at h2
            obtain ⟨n, s', more, g1, g2, g3, g4⟩ := step _ _ _ _ h2
            exact fin n v h' s' more rfl g1 g2 g3 g4
          | skip =>
            simp only [apK_eq] at h2
            obtain ⟨n, s', more, g1, g2, g3, g4⟩ := step _ _ _ _ h2
            exact fin n undef h' s' more rfl g1 g2 g3 g4
          | enter f args =>
            obtain ⟨n1, y, h3, h4⟩ := hcall _ _ _ _ h2
            obtain ⟨e, h''⟩ := y
            cases e with
            | ret v =>
              simp only [nv_eq, nfHp_eq, apK_eq] at h4
              obtain ⟨n, s', more, g1, g2, g3, g4⟩ := step _ _ _ _ h4
              refine fin (max n1 n) v h'' s' more ?_ (pass_mono (hC.le n (max n1 n) (by omega)) _ _ _ _ _ _ _ _ g1) g2 g3 g4
              simp only [passE, nfHp_eq]
              rw [hC.le n1 (max n1 n) (by omega) _ _ _ _ h3]
            | pan c => exact h4.elim
          | panic v => exact h2.elim
          | defer d => exact h2.elim
          | recov => exact h2.elim
        cases hk : kind o with
        | quiet => rw [hk] at h; exact quiet (.inl hk) h
        | conv =>
          rw [hk] at h
          simp only at h
          cases hb : isBytes E (skV l ms ov s.vs i) (addRows hp.rows base (Ev.seen ms s.es i) s.nw) o with
          | false => rw [hb] at h; exact quiet (.inr hk) h
          | true =>
            rw [hb] at h
            obtain ⟨b1, b2⟩ := isBytes_spec E (skV_le hs s.vs i) hb
            exact acts (.inr ⟨hk, b2⟩) b1 h
        | new =>
          rw [hk] at h
          simp only at h
          have nr : rowless o = false := by
            cases hr : rowless o with
            | false => rfl
            | true => rcases kind_rowless hr with h0 | h0 <;> rw [h0] at hk <;> simp at hk
          split at h
          · rename_i cs ak ha
            simp only [nv_eq, apK_eq] at h
            obtain ⟨n, s', more, g1, g2, g3, g4⟩ := step _ _ _ _ h
            refine ⟨n, s', _ :: more, ?_, g2, g3, g4.cons (notRow (.inl nr) s' _ g3)⟩
            simp only [pass, hw, hlast, hk, evA_mono (skV_le hs s.vs i) ha]
            exact g1
          · exact h.elim
        | act =>
          rw [hk] at h
          exact acts (.inl hk) (kind_act hk) h

theorem sAgain_sound (hs : Sub ov tm) {s : Pass} {i : Nat} {o : Oper} {v : Value} {k : Prop} : ∀ (hps : List Hp) (n : Nat), sAgain E l ms ov base s i o v hps n k → again E.P l ms tm base s i o v hps n = true ∧ k := by
  intro hps
  induction hps with
  | nil => intro n h; exact ⟨rfl, h⟩
  | cons hp r ih =>
    intro n h
    simp only [sAgain] at h
    simp only [again]
    cases hw : window ms s.es i n with
    | false => rw [hw] at h; simp only [cond_false] at h ⊢; simpa using ih _ h
    | true =>
      rw [hw] at h
      simp only [cond_true] at h ⊢
      obtain ⟨v', h1, rfl, h2⟩ := sQ_sound E (skV_le hs s.vs i) h
      obtain ⟨h3, h4⟩ := need_spec h2
      obtain ⟨h5, h6⟩ := ih _ h4
      rw [h1]
      simp only [self_veq _ _ h3, h5, Bool.and_self, true_and]
      exact h6

theorem again_rowless {P : Program} {s : Pass} {i : Nat} {o : Oper} {v : Value} (hr : rowless o = true) {rows : Tr Row} (h : evQ P (dV l ms tm s.vs i) rows o = some v) (hv : veq 20 v v = true) : ∀ (hps : List Hp) (n : Nat), again P l ms tm base s i o v hps n = true := by
  intro hps
  induction hps with
  | nil => intro n; rfl
  | cons hp r ih =>
    intro n
    simp only [again, ih, Bool.and_true]
    cases window ms s.es i n with
    | false => rfl
    | true => rw [evQ_rowless hr _ rows, h]; simpa using hv

theorem sLook2_sound (hs : Sub ov tm) {s : Pass} {k : Prop} : ∀ (r : List Oper) (i : Nat), sLook2 E l ms ov base s r i k → Evd E.P l ms tm s i r → look2 E.P l ms tm base s r i = true ∧ k := by
  intro r
  induction r with
  | nil => intro i h _; exact ⟨rfl, h⟩
  | cons o rest ih =>
    intro i h hev
    simp only [sLook2] at h
    simp only [look2]
    obtain ⟨w, hw, h⟩ := sdWant_sound hs h
    rw [hw]
    have hev' : Evd E.P l ms tm s (i + 1) rest := by
      intro j o' ho hr hd
      have := hev (j + 1) o' (by simpa using ho) hr (by rw [show i + (j + 1) = i + 1 + j by omega]; exact hd)
      rw [show i + (j + 1) = i + 1 + j by omega] at this
      exact this
    cases w with
    | false => simpa using ih _ h hev'
    | true =>
      simp only at h ⊢
      cases hb : (s.es.contains i || s.nw.any (fun p => Nat.beq p.1 i)) with
      | true =>
        rw [hb] at h
        simp only [Bool.true_or, cond_true] at h ⊢
        simpa using ih _ h hev'
      | false =>
        rw [hb] at h
        simp only [Bool.false_or] at h ⊢
        cases hr : rowless o with
        | true =>
          rw [hr] at h
          obtain ⟨rows, v, e1, e2, e3⟩ := hev 0 o (by simp) hr (by simpa using hw)
          simp only [Nat.add_zero] at e1 e2
          rw [e2]
          simp only [again_rowless hr e1 e3, Bool.true_and]
          exact ih _ h hev'
        | false =>
          rw [hr] at h
          simp only [cond_false] at h
          split at h
          · rename_i v hv
            rw [hv]
            obtain ⟨h1, h2⟩ := sAgain_sound E hs _ _ h
            simp only [h1, Bool.true_and]
            exact ih _ h2 hev'
          · exact h.elim
end

theorem sPuts_sound {k : Fr → Prop} : ∀ (l : List Oper) (vs : List Value) (fr : Fr) (tm : Tr Value), sPuts l vs fr k → Sub fr.tm tm →
    ∃ ov tm', puts l vs ⟨tm, fr.nt, fr.df⟩ = some ⟨tm', fr.nt, fr.df⟩ ∧ Sub ov tm' ∧ k ⟨ov, fr.nt, fr.df⟩ := by
  intro l
  induction l with
  | nil => intro vs fr tm h hs; exact ⟨fr.tm, tm, by simp [puts], hs, by simpa [sPuts] using h⟩
  | cons o l ih =>
    intro vs fr tm h hs
    cases vs with
    | nil => exact ⟨fr.tm, tm, by simp [puts], hs, by simpa [sPuts] using h⟩
    | cons v vs =>
      simp only [sPuts] at h
      obtain ⟨ov, tm', h1, h2, h3⟩ := sPut_sound h hs
      obtain ⟨ov2, tm2, h4, h5, h6⟩ := ih vs _ _ h3 h2
      refine ⟨ov2, tm2, ?_, h5, h6⟩
      simp only [puts]
      rw [putFr_def, h1]; exact h4

theorem sDraw_sound {C : Nat → CallF} (hC : Fam C) {call : SCall} (hcall : SOk C call) {ops : Array Oper} {fr : Fr} {h : Hp} {k : Fr → Hp → Prop} (he : sDraw E call ops fr h k) {tm : Tr Value} (hs : Sub fr.tm tm) :
    ∃ n ov tm' h', evDraw E.P (C n) ops ⟨tm, fr.nt, fr.df⟩ h = some (⟨tm', fr.nt, fr.df⟩, h') ∧ Sub ov tm' ∧ k ⟨ov, fr.nt, fr.df⟩ h' := by
  unfold sDraw at he
  obtain ⟨h1, he⟩ := need_spec he
  rw [msK_eq, nfHp_eq] at he
  obtain ⟨n, s, more, h2, h3, h4, h5⟩ := sPass_sound E hC hcall hs _ _ _ he rfl
  obtain ⟨h6, h7⟩ := sLook2_sound E hs _ _ h3 h5
  obtain ⟨h8, h9⟩ := need_spec h7
  split at h9
  · rename_i hm hlast
    obtain ⟨ov, tm', g1, g2, g3⟩ := sPuts_sound _ _ _ _ h9 hs
    rw [nfHp_eq] at g3
    refine ⟨n, ov, tm', _, ?_, g2, g3⟩
    unfold evDraw
    simp only [h1, cond_true, h2, h6, h8, Bool.and_self, hlast, g1, nfHp_eq]
  · exact h9.elim

/-! ### Code -/
/-- The piece of code at a place, the last turn first. -/
def codeAt (c0 : Code) : List Nat → Option Code
  | [] => some c0
  | i :: p =>
    match codeAt c0 p with
    | some (.seq x y) => (match i with | 0 => some x | _ => some y)
    | some (.cond _ x y) => (match i with | 0 => some x | _ => some y)
    | some (.block _ c) => some c
    | some (.loop c) => some c
    | _ => none

open Classical in
/-- The calls that are known, as calls. -/
noncomputable def oOf : CallF := fun f args h =>
  match E.T f args h with
  | some (p, v, h') => if p then some (.ret v, h') else none
  | none => none

/-- From here on the evaluator comes to an end that meets the condition. -/
def OkC (it : Bool) (c : Code) (fr : Fr) (u : Option FrameMode) (h : Hp) (K : KO) : Prop :=
  ∀ tm, Sub fr.tm tm → ∃ n x, ev E.P (oOf E) n it c ⟨tm, fr.nt, fr.df⟩ u h = some x ∧ KS K x

/-- The pieces of code that are known are so. -/
def LOk : Prop := ∀ f p spec fn c0 c, E.L f p = some spec → E.P.funcs[f]? = some fn → fn.body = some c0 → codeAt c0 p = some c → ∀ fr u h K, spec fr u h K → OkC E false c fr u h K

def SevOk (rec : SRec) : Prop := ∀ f fn c0, E.P.funcs[f]? = some fn → fn.body = some c0 → ∀ p it c fr u h K, codeAt c0 p = some (if it then .loop c else c) → rec f p it c fr u h K → OkC E it c fr u h K

theorem fam : Fam fun n => callO E.P (oOf E) (ev E.P (oOf E) n) := ⟨fun _ _ h => callO_mono _ (ev_le _ h)⟩

theorem sRes_sound {rows : Tr Row} {ov tm : Tr Value} (hs : Sub ov tm) : ∀ (l : List ResultVar) (k : List Value → Prop), sRes E rows ov l k → ∃ vs, aRes E.P rows tm l = some vs ∧ k vs := by
  intro l
  induction l with
  | nil => intro k h; exact ⟨[], rfl, h⟩
  | cons r l ih =>
    intro k h
    cases r with
    | tmp t =>
      simp only [sRes] at h
      split at h
      · rename_i v hv
        rw [nv_eq] at h
        obtain ⟨vs, h1, h2⟩ := ih _ h
        exact ⟨v :: vs, by simp [aRes, h1, hs _ _ hv], h2⟩
      · exact h.elim
    | cell c t =>
      simp only [sRes] at h
      split at h
      · rename_i a ha
        obtain ⟨v, h1, h2⟩ := sLoad_sound E h
        rw [nv_eq] at h2
        obtain ⟨vs, h3, h4⟩ := ih _ h2
        exact ⟨v :: vs, by simp [aRes, h3, hs _ _ ha, h1], h4⟩
      · exact h.elim

theorem sResults_sound {rows : Tr Row} {ov tm : Tr Value} (hs : Sub ov tm) {fn : Func} {k : Value → Prop} (h : sResults E rows ov fn k) : ∃ v, aResults E.P rows tm fn = some v ∧ k v := by
  unfold sResults at h
  obtain ⟨vs, h1, h2⟩ := sRes_sound E hs _ _ h
  unfold aResults
  rw [h1]
  match vs, h2 with
  | [], h2 => exact ⟨_, rfl, h2⟩
  | [v], h2 => exact ⟨_, rfl, h2⟩
  | a :: b :: c, h2 => exact ⟨_, rfl, h2⟩

theorem sCallF_sound {rec : SRec} (hrec : SevOk E rec) : SOk (fun n => callO E.P (oOf E) (ev E.P (oOf E) n)) (sCallF E rec) := by
  intro f a h k hc
  unfold sCallF at hc
  split at hc
  · rename_i p v h' ht
    refine ⟨0, _, ?_, hc.2⟩
    simp only [callO, oOf, ht, if_pos hc.1]
  · rename_i ht
    split at hc
    · rename_i fn hf
      split at hc
      · rename_i c hb
        obtain ⟨h1, hc⟩ := need_spec hc
        obtain ⟨n, x, h2, ov, h3, h4⟩ := hrec f fn c hf hb [] false c _ _ _ _ rfl hc _ (Sub.refl _)
        obtain ⟨e, ⟨tm, nt, df⟩, u', h'⟩ := x
        simp only at h3 h4
        have base : ∀ r, (match (some (e, (⟨tm, nt, df⟩ : Fr), u', h') : Option Out4) with
            | some (.normal, fr, _, h') => leaves E.P (ev E.P (oOf E) n) fn fr.tm fr.df .returning h'
            | some (.ret, fr, _, h') => leaves E.P (ev E.P (oOf E) n) fn fr.tm fr.df .returning h'
            | some (.panic ch, fr, _, h') => leaves E.P (ev E.P (oOf E) n) fn fr.tm fr.df (.panicking ch) h'
            | _ => none) = some r → callO E.P (oOf E) (ev E.P (oOf E) n) f a h = some r := by
          intro r hr
          simp only [callO, oOf, ht, callF, hf, hb, h1, cond_true, h2]
          exact hr
        cases e with
        | normal =>
          cases df with
          | nil =>
            obtain ⟨v, g1, g2⟩ := sResults_sound E h3 h4
            exact ⟨n, _, base _ (by simp only [leaves, g1]), g2⟩
          | cons d ds => exact h4.elim
        | ret =>
          cases df with
          | nil =>
            obtain ⟨v, g1, g2⟩ := sResults_sound E h3 h4
            exact ⟨n, _, base _ (by simp only [leaves, g1]), g2⟩
          | cons d ds => exact h4.elim
        | panic ch =>
          cases df with
          | nil => exact ⟨n, _, base _ (by simp only [leaves]), h4⟩
          | cons d ds => exact h4.elim
        | exit j => exact h4.elim
      · exact hc.elim
    · exact hc.elim

theorem ev_up {n m : Nat} (h : n ≤ m) {it : Bool} {c : Code} {fr : Fr} {u : Option FrameMode} {hp : Hp} {x : Out4} (he : ev E.P (oOf E) n it c fr u hp = some x) : ev E.P (oOf E) m it c fr u hp = some x := ev_le _ h _ _ _ _ _ _ he

theorem sRound_sound {rec : SRec} (hrec : SevOk E rec) {f : FuncId} {fn : Func} {c0 : Code} (hf : E.P.funcs[f]? = some fn) (hb : fn.body = some c0) {p : List Nat} {c : Code} (hp : codeAt c0 p = some (.loop c)) {fr : Fr} {u : Option FrameMode} {h : Hp} {K : KO}
    (he : sRound rec f p c fr u h K) : ∀ tm, Sub fr.tm tm → ∃ n x, round (ev E.P (oOf E) n) c ⟨tm, fr.nt, fr.df⟩ u h = some x ∧ KS K x := by
  intro tm hs
  unfold sRound at he
  obtain ⟨n, x, h1, ov, h2, h3⟩ := hrec f fn c0 hf hb (0 :: p) false c _ _ _ _ (by simp [codeAt, hp]) he tm hs
  obtain ⟨e, ⟨tm', nt, df⟩, u', h'⟩ := x
  cases e with
  | normal =>
    obtain ⟨m, y, h4, h5⟩ := hrec f fn c0 hf hb p true c _ _ _ _ (by simpa using hp) h3 tm' h2
    refine ⟨max n m, y, ?_, h5⟩
    simp only [round, ev_up E (Nat.le_max_left n m) h1]
    exact ev_up E (Nat.le_max_right n m) h4
  | _ => exact ⟨n, _, by simp only [round, h1], ov, h2, h3⟩

theorem sStep_sound (hL : LOk E) {rec : SRec} (hrec : SevOk E rec) : SevOk E (sStep E rec) := by
  intro f fn c0 hf hb p it c fr u h K hp he
  cases it with
  | true =>
    intro tm hs
    obtain ⟨n, x, h1, h2⟩ := sRound_sound E hrec hf hb (by simpa using hp) he tm hs
    exact ⟨n + 1, x, h1, h2⟩
  | false =>
    simp only [sStep] at he
    simp only [Bool.false_eq_true, if_false] at hp
    split at he
    · rename_i spec hsp
      exact hL f p spec fn c0 c hsp hf hb hp fr u h K he
    · intro tm hs
      cases c with
      | skip => exact ⟨1, _, rfl, fr.tm, hs, he⟩
      | ret => exact ⟨1, _, rfl, fr.tm, hs, he⟩
      | exit id => exact ⟨1, _, rfl, fr.tm, hs, he⟩
      | loop c =>
        obtain ⟨n, x, h1, h2⟩ := sRound_sound E hrec hf hb hp he tm hs
        exact ⟨n + 1, x, h1, h2⟩
      | seq a b =>
        obtain ⟨n, x, h1, ov, h2, h3⟩ := hrec f fn c0 hf hb (0 :: p) false a _ _ _ _ (by simp [codeAt, hp]) he tm hs
        obtain ⟨e, ⟨tm', nt, df⟩, u', h'⟩ := x
        cases e with
        | normal =>
          obtain ⟨m, y, h4, h5⟩ := hrec f fn c0 hf hb (1 :: p) false b _ _ _ _ (by simp [codeAt, hp]) h3 tm' h2
          refine ⟨max n m + 1, y, ?_, h5⟩
          simp only [ev, evStep, ev_up E (Nat.le_max_left n m) h1]
          exact ev_up E (Nat.le_max_right n m) h4
        | _ => exact ⟨n + 1, _, by simp only [ev, evStep, h1], ov, h2, h3⟩
      | cond x a b =>
        simp only at he
        split at he
        · rename_i bb hx
          have hx' := kv_le hs _ _ hx
          rcases br_spec he with ⟨rfl, hh⟩ | ⟨rfl, hh⟩
          · obtain ⟨ov, h1, h2⟩ := sLit_sound hh hs hx
            obtain ⟨n, y, h3, h4⟩ := hrec f fn c0 hf hb (0 :: p) false a _ _ _ _ (by simp [codeAt, hp]) h2 tm h1
            exact ⟨n + 1, y, by simp only [ev, evStep, hx']; exact h3, h4⟩
          · obtain ⟨ov, h1, h2⟩ := sLit_sound hh hs hx
            obtain ⟨n, y, h3, h4⟩ := hrec f fn c0 hf hb (1 :: p) false b _ _ _ _ (by simp [codeAt, hp]) h2 tm h1
            exact ⟨n + 1, y, by simp only [ev, evStep, hx']; exact h3, h4⟩
        · exact he.elim
      | block id c =>
        obtain ⟨n, x, h1, ov, h2, h3⟩ := hrec f fn c0 hf hb (0 :: p) false c _ _ _ _ (by simp [codeAt, hp]) he tm hs
        obtain ⟨e, ⟨tm', nt, df⟩, u', h'⟩ := x
        cases e with
        | exit j =>
          simp only at h3
          cases hj : Nat.beq j id with
          | true => rw [hj] at h3; exact ⟨n + 1, (.normal, ⟨tm', nt, df⟩, u', h'), by simp only [ev, evStep, h1, hj, cond_true], ov, h2, h3⟩
          | false => rw [hj] at h3; exact ⟨n + 1, (.exit j, ⟨tm', nt, df⟩, u', h'), by simp only [ev, evStep, h1, hj, cond_false], ov, h2, h3⟩
        | _ => exact ⟨n + 1, _, by simp only [ev, evStep, h1], ov, h2, h3⟩
      | region id ops d =>
        cases d with
        | false =>
          obtain ⟨n, x, h1, h2⟩ := sSeq_sound E (fam E) (sCallF_sound E hrec) ops _ _ _ _ tm he hs
          exact ⟨n + 1, x, h1, h2⟩
        | true =>
          obtain ⟨n, ov, tm', h', h1, h2, h3⟩ := sDraw_sound E (fam E) (sCallF_sound E hrec) he hs
          exact ⟨n + 1, (.normal, ⟨tm', fr.nt, fr.df⟩, u, h'), by simp only [ev, evStep, h1], ov, h2, h3⟩
      | _ => exact he.elim

theorem sev_sound (hL : LOk E) : ∀ n, SevOk E (sev E n)
  | 0 => fun _ _ _ _ _ _ _ _ _ _ _ _ _ h => h.elim
  | n + 1 => sStep_sound E hL (sev_sound hL n)

/-- A call that meets a condition. -/
theorem scall_sound (hL : LOk E) {n : Nat} {f : FuncId} {args : List Value} {h : Hp} {k : Ev.End × Hp → Prop} (hc : scall E n f args h k) :
    ∃ m r, callO E.P (oOf E) (ev E.P (oOf E) m) f args h = some r ∧ k r := sCallF_sound E (sev_sound E hL n) _ _ _ _ hc
end
end Go.Sy

/-
  Conditions, fifth part: contracts of calls whose arguments and results hold no addresses.
-/
namespace Go.Sy
open Go.Ev Go.RowKit

/-- In every world the call returns that, and what was there stays. -/
def Flat (P : Program) (f : FuncId) (args : List Value) (v : Value) : Prop :=
  ∀ w, Calls P f args.toArray w fun e w' => e = .returned v ∧ Below w.heap.size w w'

section
variable {E : Env}

theorem wr_below {B : Base} {μ : Mu} {F : Nat → Option Row} {n : Nat} {w w' : World} (hw : WR B μ F n w) (hb : Below w.heap.size w w') : WR B μ F n w' ∧ Keep μ F w μ F w' := by
  obtain ⟨h1, h2, h3, h4, h5⟩ := hb
  refine ⟨⟨Nat.le_trans hw.base h4, hw.hole, hw.fresh, fun r row hr => ?_, hw.apart⟩, ⟨h1, h2, h3, h4, fun b hb _ => h5 b hb, fun b hb => .inl hb⟩⟩
  exact (hw.rows r row hr).kept (Le.refl _) fun b o s hm => h5 b ((hw.rows r row hr).lt hm)

theorem flat_args {μ : Mu} {args : List Value} {args' : Array Value} (hf : args.all (flat 12) = true) (hv : VRs μ args args'.toList) : args' = args.toArray := by
  apply Array.ext'
  apply List.ext_getElem?
  intro i
  rw [List.all_eq_true] at hf
  cases h1 : args[i]? with
  | none =>
    have := hv.1
    rw [List.getElem?_eq_none_iff] at h1 ⊢
    omega
  | some v =>
    obtain ⟨v', h2, h3⟩ := hv.get h1
    rw [h2, flat_eq _ _ _ (hf v (List.mem_of_getElem? h1)) h3]

theorem calls_flat (hT : ∀ f args h p v h', E.T f args h = some (p, v, h') → p → h' = h ∧ args.all (flat 12) = true ∧ flat 12 v = true ∧ Flat E.P f args v) : CallsOk E.P (oOf E) := by
  intro B f args h r h' μ w args' he hw hargs hok
  unfold oOf at he
  split at he
  · rename_i p v h2 ht
    split at he
    · rename_i hp
      simp only [Option.some.injEq, Prod.mk.injEq] at he
      obtain ⟨rfl, rfl⟩ := he
      obtain ⟨rfl, hf, hv, hfl⟩ := hT _ _ _ _ _ _ ht hp
      rw [flat_args hf hargs]
      refine (hfl w).mono ?_
      rintro e w' ⟨rfl, hb⟩
      obtain ⟨g1, g2⟩ := wr_below hw hb
      exact ⟨μ, Le.refl _, g1, g2, flat_refl _ _ hv⟩
    · simp at he
  · simp at he

theorem flat_of (hm : E.P.follows .mixedOrders = true) (ho : CallsOk E.P (oOf E)) (hL : LOk E) {n : Nat} {f : FuncId} {args : List Value} {v : Value} (hok : okFn E.P f = true) (hfl : args.all (flat 12) = true) (hv : flat 12 v = true)
    (hc : scall E n f args ⟨.leaf, 0⟩ fun r => r.1 = .ret v) : Flat E.P f args v := by
  intro w
  obtain ⟨m, ⟨e, h'⟩, h1, h2⟩ := scall_sound E hL hc
  simp only at h2
  subst h2
  have hcall := callO_ok ho (ev_ok hm ho m)
  have hw : WR ⟨w.heap.size, fun _ => False⟩ (fun _ => none) (Hp.rows ⟨.leaf, 0⟩).find (Hp.next ⟨.leaf, 0⟩) w :=
    ⟨Nat.le_refl _, fun _ hz => hz.elim, fun _ _ => rfl, fun q row hq => by simp [Tr.find] at hq, fun q1 q2 x y b o s o' s' hx => by simp [Tr.find] at hx⟩
  have hargs : VRs (fun _ => none) args args.toArray.toList := by
    refine ⟨by simp, fun i v v' h1 h2 => ?_⟩
    simp at h2
    rw [h1] at h2; simp at h2; subst h2
    rw [List.all_eq_true] at hfl
    exact flat_refl _ _ (hfl v (List.mem_of_getElem? h1))
  refine (hcall _ f args ⟨.leaf, 0⟩ (.ret v) h' (fun _ => none) w args.toArray h1 hw hargs hok).mono ?_
  rintro e w' ⟨μ', q1, q2, q3, q4⟩
  cases e with
  | returned v' =>
    refine ⟨by rw [flat_eq _ _ _ hv q4], ⟨q3.os, q3.tape, q3.output, q3.size, fun k hk => q3.block k hk ?_⟩⟩
    rintro ⟨q, row, o', s, hq, _⟩
    simp [Tr.find] at hq
  | panicked c => exact q4.elim
  | outgrown => exact q4.elim

theorem wf64 {n : Int} (h : (Lit.int .i64 n).wf = true) : -9223372036854775808 ≤ n ∧ n ≤ 9223372036854775807 := by
  simp only [Lit.wf, Bool.and_eq_true, decide_eq_true_eq] at h
  exact h

/-- No piece of code is known. -/
theorem lok_none (h : ∀ f p, E.L f p = none) : LOk E := fun f p _ _ _ _ hl => by rw [h] at hl; simp at hl

/-- What is proved of a call by its condition, the condition laid open. -/
theorem flat_vc (hm : E.P.follows .mixedOrders = true) (ho : CallsOk E.P (oOf E)) (hL : LOk E) {n : Nat} {f : FuncId} {args : List Value} {v : Value} {vc : Prop} (hok : okFn E.P f = true) (hfl : args.all (flat 12) = true) (hv : flat 12 v = true)
    (hvc : scall E n f args ⟨.leaf, 0⟩ (fun r => r.1 = .ret v) = vc) (h : vc) : Flat E.P f args v := flat_of hm ho hL hok hfl hv (hvc.mpr h)
end
end Go.Sy

/-
  Conditions, sixth part: numbers; a number brought between two bounds.
-/
namespace Go.Sy
open Go.Ev Go.RowKit

def I64 (n : Int) : Prop := -9223372036854775808 ≤ n ∧ n ≤ 9223372036854775807
/-- A number whose sums do not wrap. -/
def Small (l : Int) : Prop := -1152921504606846976 ≤ l ∧ l ≤ 1152921504606846976
theorem Small.i64 {l : Int} (h : Small l) : I64 l := by unfold Small at h; unfold I64; omega

theorem wr64 (n : Int) : IntKind.wrap .i64 n = (n + 9223372036854775808) % 18446744073709551616 - 9223372036854775808 := by
  simp only [IntKind.wrap, IntKind.bits, IntKind.signed]
  simp only [Bool.true_and, ge_iff_le, decide_eq_true_eq]
  split <;> omega
theorem wr64_id {n : Int} (h : I64 n) : IntKind.wrap .i64 n = n := by rw [wr64]; unfold I64 at h; omega
theorem wru8 (n : Int) : IntKind.wrap .u8 n = n % 256 := by
  simp only [IntKind.wrap, IntKind.bits, IntKind.signed]
  simp

/-- What reservoirbook's Within answers. -/
def within (n lo hi : Int) : Int := lo + n % (hi - lo + 1)

theorem within_eq (n d : Int) (hd : 0 < d) : (Int.tmod n d < 0 → Int.tmod n d + d = n % d) ∧ (0 ≤ Int.tmod n d → Int.tmod n d = n % d) := by
  have h1 := Int.tmod_eq_emod (a := n) (b := d)
  have h2 := Int.emod_nonneg n (by omega : d ≠ 0)
  have h3 := Int.emod_lt_of_pos n hd
  have h4 : (d.natAbs : Int) = d := by omega
  constructor
  · intro h
    rw [h1] at h ⊢
    split at h <;> rename_i hc <;> simp only [hc, if_true, if_false] at * <;> first | omega | (simp only [h4] at *; omega)
  · intro h
    rw [h1] at h ⊢
    split at h <;> rename_i hc <;> simp only [hc, if_true, if_false] at * <;> first | omega | (simp only [h4] at *; omega)

theorem within_bd (n lo hi : Int) (h : lo ≤ hi) : lo ≤ within n lo hi ∧ within n lo hi ≤ hi := by
  have h2 := Int.emod_nonneg n (by omega : hi - lo + 1 ≠ 0)
  have h3 := Int.emod_lt_of_pos n (by omega : 0 < hi - lo + 1)
  unfold within; omega

theorem within_flat {E : Env} (hm : E.P.follows .mixedOrders = true) (ho : CallsOk E.P (oOf E)) (hL : LOk E) {k : Nat} {f : FuncId} (hok : okFn E.P f = true)
    (hvc : ∀ (n lo hi : Int) (v : Value), scall E k f [.int .i64 n, .int .i64 lo, .int .i64 hi] ⟨.leaf, 0⟩ (fun r => r.1 = .ret v) =
      (br (IntKind.wrap IntKind.i64 (IntKind.wrap IntKind.i64 (hi - lo) + (1 : Int)) != (0 : Int))
        (br (decide (Int.tmod n (IntKind.wrap IntKind.i64 (IntKind.wrap IntKind.i64 (hi - lo) + (1 : Int))) < (0 : Int)))
          (Ev.End.ret (Value.int IntKind.i64 (IntKind.wrap IntKind.i64 (lo + IntKind.wrap IntKind.i64 (IntKind.wrap IntKind.i64 (IntKind.wrap IntKind.i64 (Int.tmod n (IntKind.wrap IntKind.i64 (IntKind.wrap IntKind.i64 (hi - lo) + (1 : Int))) + hi) - lo) + (1 : Int))))) = Ev.End.ret v)
          (Ev.End.ret (Value.int IntKind.i64 (IntKind.wrap IntKind.i64 (lo + Int.tmod n (IntKind.wrap IntKind.i64 (IntKind.wrap IntKind.i64 (hi - lo) + (1 : Int)))))) = Ev.End.ret v))
        False)) (n lo hi : Int) (hlo : Small lo) (hhi : Small hi) (h : lo ≤ hi) : Flat E.P f [.int .i64 n, .int .i64 lo, .int .i64 hi] (.int .i64 (within n lo hi)) := by
  refine flat_vc hm ho hL hok rfl rfl (hvc n lo hi _) ?_
  unfold Small at hlo hhi
  have e : IntKind.wrap .i64 (IntKind.wrap .i64 (hi - lo) + 1) = hi - lo + 1 := by simp only [wr64]; omega
  rw [e]
  have hd : 0 < hi - lo + 1 := by omega
  obtain ⟨w1, w2⟩ := within_eq n _ hd
  have h2 := Int.emod_nonneg n (by omega : hi - lo + 1 ≠ 0)
  have h3 := Int.emod_lt_of_pos n hd
  refine br_intro (fun _ => br_intro (fun h => ?_) (fun h => ?_)) (fun h => ?_)
  · simp only [decide_eq_true_eq] at h
    have := w1 h
    unfold within
    congr 2
    simp only [wr64]; omega
  · simp only [decide_eq_false_iff_not] at h
    have := w2 (by omega)
    unfold within
    congr 2
    simp only [wr64]; omega
  · simp at h; omega

/-- A program without known calls. -/
def bare (P : Program) : Env := { P := P, T := fun _ _ _ => none, L := fun _ _ => none, sy := fun _ => false }
theorem calls_bare (P : Program) : CallsOk P (oOf (bare P)) := calls_flat (E := bare P) fun f a h p v h' e => by simp [bare] at e
theorem lok_bare (P : Program) : LOk (bare P) := lok_none fun _ _ => rfl
/-- A program with known calls. -/
def withT (P : Program) (T : FuncId → List Value → Hp → Option (Prop × Value × Hp)) : Env := { P := P, T := T, L := fun _ _ => none, sy := fun _ => false }
theorem lok_with (P : Program) (T : FuncId → List Value → Hp → Option (Prop × Value × Hp)) : LOk (withT P T) := lok_none fun _ _ => rfl
end Go.Sy

/-
  Conditions, seventh part: loops; laws whose arguments are slices of numbers.
-/
namespace Go.Sy
open Go.Ev Go.RowKit

/-- Slots that are known. -/
def mkOv : List (Nat × Value) → Tr Value
  | [] => .leaf
  | p :: r => (mkOv r).put p.1 (some p.2)
theorem sub_mkOv {t : Tr Value} : ∀ (l : List (Nat × Value)), (∀ p ∈ l, p.1 < Tr.top ∧ t.find p.1 = some p.2) → Sub (mkOv l) t := by
  intro l
  induction l with
  | nil => intro _ i v h; simp [mkOv, Tr.find] at h
  | cons p r ih =>
    intro h i v hv
    simp only [mkOv] at hv
    rw [Tr.find_put _ _ _ _ (h p (by simp)).1] at hv
    split at hv
    · rename_i e; rw [e, (h p (by simp)).2]; exact hv
    · exact ih (fun q hq => h q (by simp [hq])) i v hv

/-- The piece of a function's code at a place. -/
def codeOf (P : Program) (f : FuncId) (p : List Nat) : Code :=
  match P.funcs[f]? with
  | some fn => (match fn.body with | some c => (match codeAt c p with | some c => c | none => .skip) | none => .skip)
  | none => .skip
theorem codeOf_eq {P : Program} {f : FuncId} {p : List Nat} {fn : Func} {c0 c : Code} (hf : P.funcs[f]? = some fn) (hb : fn.body = some c0) (hc : codeAt c0 p = some c) : codeOf P f p = c := by
  unfold codeOf; rw [hf]; simp only [hb, hc]
/-- Is a loop there? -/
def loopAt (P : Program) (f : FuncId) (p : List Nat) : Bool :=
  match P.funcs[f]? with
  | some fn => (match fn.body with | some c => (match codeAt c p with | some (.loop _) => true | _ => false) | none => false)
  | none => false

section
variable {E : Env}

theorem loop_ok {ι : Type} {body : Code} {nt : Nat} {df : List Deferred} {u : Option FrameMode} (ov : ι → Tr Value) (hp : ι → Hp) (Inv : ι → Prop) (m : ι → Nat) {K : KO}
    (hbody : ∀ i, Inv i → OkC E false body ⟨ov i, nt, df⟩ u (hp i) (fun x => match x with
      | (.normal, fr', u', h') => ∃ j, Inv j ∧ m j < m i ∧ Sub (ov j) fr'.tm ∧ fr'.nt = nt ∧ fr'.df = df ∧ u' = u ∧ h' = hp j
      | r => K r)) : ∀ i, Inv i → OkC E false (.loop body) ⟨ov i, nt, df⟩ u (hp i) K := by
  have R : ∀ (k : Nat) (i : ι), m i ≤ k → Inv i → ∀ tm, Sub (ov i) tm → ∃ n x, round (ev E.P (oOf E) n) body ⟨tm, nt, df⟩ u (hp i) = some x ∧ KS K x := by
    intro k
    induction k with
    | zero =>
      intro i hk hi tm hs
      obtain ⟨n, x, h1, ov', h2, h3⟩ := hbody i hi tm hs
      obtain ⟨e, ⟨tm', nt', df'⟩, u', h'⟩ := x
      cases e with
      | normal => obtain ⟨j, _, hm, _⟩ := h3; omega
      | _ => exact ⟨n, _, by simp only [round, h1], ov', h2, h3⟩
    | succ k ih =>
      intro i hk hi tm hs
      obtain ⟨n, x, h1, ov', h2, h3⟩ := hbody i hi tm hs
      obtain ⟨e, ⟨tm', nt', df'⟩, u', h'⟩ := x
      cases e with
      | normal =>
        obtain ⟨j, hj, hm, hsub, e1, e2, e3, e4⟩ := h3
        simp only at e1 e2 e3 e4 h2
        subst e1; subst e2; subst e3; subst e4
        obtain ⟨n2, y, h4, h5⟩ := ih j (by omega) hj tm' (fun i v hv => h2 i v (hsub i v hv))
        refine ⟨max n (n2 + 1), y, ?_, h5⟩
        simp only [round, ev_up E (Nat.le_max_left n (n2 + 1)) h1]
        exact ev_up E (Nat.le_max_right n (n2 + 1)) (show ev E.P (oOf E) (n2 + 1) true body _ _ _ = some y from h4)
      | _ => exact ⟨n, _, by simp only [round, h1], ov', h2, h3⟩
  intro i hi tm hs
  obtain ⟨n, x, h1, h2⟩ := R (m i) i (Nat.le_refl _) hi tm hs
  exact ⟨n + 1, x, h1, h2⟩

theorem OkC.mono {it : Bool} {c : Code} {fr : Fr} {u : Option FrameMode} {h : Hp} {K K' : KO} (hk : ∀ x, K x → K' x) (ho : OkC E it c fr u h K) : OkC E it c fr u h K' := by
  intro tm hs
  obtain ⟨n, x, h1, ov, h2, h3⟩ := ho tm hs
  exact ⟨n, x, h1, ov, h2, hk _ h3⟩
theorem OkC.weaken {it : Bool} {c : Code} {fr : Fr} {u : Option FrameMode} {h : Hp} {K K' : KO} (hk : ∀ e tm nt df u h, K (e, ⟨tm, nt, df⟩, u, h) → ∃ ov, Sub ov tm ∧ K' (e, ⟨ov, nt, df⟩, u, h)) (ho : OkC E it c fr u h K) : OkC E it c fr u h K' := by
  intro tm hs
  obtain ⟨n, ⟨e, ⟨tm', nt, df⟩, u', h'⟩, h1, ov, h2, h3⟩ := ho tm hs
  obtain ⟨ov2, h4, h5⟩ := hk _ _ _ _ _ _ h3
  exact ⟨n, _, h1, ov2, fun i v hv => h2 i v (h4 i v hv), h5⟩
theorem sub_leaf (t : Tr Value) : Sub .leaf t := fun i v h => by simp [Tr.find] at h
/-- The code at a loop's place is a loop. -/
theorem loop_of {P : Program} {f : FuncId} {p : List Nat} {fn : Func} {c0 c : Code} (h : loopAt P f p = true) (hf : P.funcs[f]? = some fn) (hb : fn.body = some c0) (hc : codeAt c0 p = some c) : ∃ b, c = .loop b ∧ codeAt c0 (0 :: p) = some b := by
  unfold loopAt at h
  rw [hf] at h
  simp only [hb, hc] at h
  cases c <;> simp at h
  exact ⟨_, rfl, by simp only [codeAt, hc]⟩
theorem OkC.more {it : Bool} {c : Code} {ov ov' : Tr Value} {nt : Nat} {df : List Deferred} {u : Option FrameMode} {h : Hp} {K : KO} (hs : Sub ov ov') (ho : OkC E it c ⟨ov, nt, df⟩ u h K) : OkC E it c ⟨ov', nt, df⟩ u h K :=
  fun tm hs' => ho tm fun i v hv => hs' i v (hs i v hv)

/-- A piece of code that meets its condition. -/
theorem okC_of_sev (hL : LOk E) {f : FuncId} {fn : Func} {c0 c : Code} {p : List Nat} (hf : E.P.funcs[f]? = some fn) (hb : fn.body = some c0) (hc : codeAt c0 p = some c) {n : Nat} {fr : Fr} {u : Option FrameMode} {h : Hp} {K : KO}
    (hs : sev E n f p false (codeOf E.P f p) fr u h K) : OkC E false c fr u h K := by
  rw [codeOf_eq hf hb hc] at hs
  exact sev_sound E hL n f fn c0 hf hb p false c fr u h K (by simpa using hc) hs
end

/-! ### Laws over rows -/
/-- Rows of cells, by number. -/
def ofR : List (List Value) → Nat → Tr Row → Tr Row
  | [], _, t => t
  | c :: r, i, t => ofR r (i + 1) (t.put i (some ⟨c, true, .cells⟩))

theorem ofR_find : ∀ (l : List (List Value)) (i : Nat) (t : Tr Row) (m : Nat), i + l.length ≤ Tr.top → (ofR l i t).find m = if i ≤ m ∧ m < i + l.length then (l[m - i]?).map fun c => ⟨c, true, .cells⟩ else t.find m := by
  intro l
  induction l with
  | nil => intro i t m _; simp [ofR]; omega
  | cons c r ih =>
    intro i t m h
    simp only [List.length_cons] at h
    simp only [ofR]
    rw [ih _ _ _ (by omega), Tr.find_put _ _ _ _ (by omega)]
    by_cases h1 : m = i
    · subst h1
      simp
      omega
    · by_cases h2 : i + 1 ≤ m ∧ m < i + 1 + r.length
      · rw [if_pos h2, if_pos (by simp; omega)]
        obtain ⟨k, hk⟩ : ∃ k, m - i = k + 1 := ⟨m - i - 1, by omega⟩
        rw [hk, List.getElem?_cons_succ, show m - (i + 1) = k by omega]
      · rw [if_neg h2, if_neg h1, if_neg (by simp; omega)]

/-- A row that an argument's block holds. -/
def RowAt (W : World) (cells : List Value) (I : Nat × Nat × Nat) : Prop :=
  ∃ c e fr, W.heap[I.1]? = some (.cells c e fr) ∧ c.size = I.2.2 ∧ I.2.1 + cells.length ≤ I.2.2 ∧ cells = (c.toList.drop I.2.1).take cells.length ∧ cells.all (flat 12) = true

theorem law_rows {P : Program} {call : CallF} (hcall : CallsOk P call) {f : FuncId} (hok : okFn P f = true) {args : List Value} {args' : Array Value} {L : List (List Value)} {I : List (Nat × Nat × Nat)} {W : World} (hlen : L.length ≤ 100)
    (hI : ∀ (r : Nat) cells, L[r]? = some cells → ∃ i, I[r]? = some i ∧ RowAt W cells i) (hI2 : I.length = L.length) (hargs : VRs (fun r => I[r]?) args args'.toList) {v : Value} (hv : flat 12 v = true) {h' : Hp}
    (hc : call f args ⟨ofR L 0 .leaf, L.length⟩ = some (.ret v, h')) : Calls P f args' W fun e W' => e = .returned v ∧ Below W.heap.size W W' := by
  have top : L.length ≤ Tr.top := by unfold Tr.top; omega
  have hfind : ∀ r row, (ofR L 0 .leaf).find r = some row → ∃ cells, L[r]? = some cells ∧ row = ⟨cells, true, .cells⟩ := by
    intro r row hr
    rw [ofR_find _ _ _ _ (by simpa using top)] at hr
    split at hr
    · simp only [Nat.sub_zero, Option.map_eq_some_iff] at hr
      obtain ⟨c, h1, h2⟩ := hr
      exact ⟨c, h1, h2.symm⟩
    · simp [Tr.find] at hr
  have hw : WR ⟨W.heap.size, fun _ => False⟩ (fun r => I[r]?) (Hp.rows ⟨ofR L 0 .leaf, L.length⟩).find (Hp.next ⟨ofR L 0 .leaf, L.length⟩) W := by
    refine ⟨Nat.le_refl _, fun _ hz => hz.elim, fun r hr => ?_, fun r row hr => ?_, fun r q x y b o s o' s' hx hy hxr => ?_⟩
    · simp only at hr ⊢
      rw [List.getElem?_eq_none_iff]; omega
    · obtain ⟨cells, h1, rfl⟩ := hfind r row hr
      obtain ⟨⟨b, o, s⟩, h2, c, e, ⟨lo, hi⟩, h3, h4, h5, h6, h7⟩ := hI r cells h1
      refine ⟨b, o, s, c, e, lo, hi, h2, h3, h4, h5, ?_, fun h => by simp at h, fun _ => (Array.getElem?_eq_some_iff.1 h3).1⟩
      refine ⟨by simp only; rw [← h6], fun i v v' g1 g2 => ?_⟩
      simp only at g1 g2
      rw [← h6] at g2
      rw [g1] at g2
      simp only [Option.some.injEq] at g2
      subst g2
      rw [List.all_eq_true] at h7
      exact flat_refl _ _ (h7 v (List.mem_of_getElem? g1))
    · obtain ⟨cells, _, rfl⟩ := hfind r x hx
      simp at hxr
  refine (hcall _ f args _ (.ret v) h' _ W args' hc hw hargs hok).mono ?_
  rintro e w' ⟨μ', q1, q2, q3, q4⟩
  cases e with
  | returned v' =>
    refine ⟨by rw [flat_eq _ _ _ hv q4], ⟨q3.os, q3.tape, q3.output, q3.size, fun k hk => q3.block k hk ?_⟩⟩
    rintro ⟨q, row, o', s, hq, hro, _⟩
    obtain ⟨cells, _, rfl⟩ := hfind q row hq
    simp at hro
  | panicked c => exact q4.elim
  | outgrown => exact q4.elim

theorem law_sev {E : Env} (hm : E.P.follows .mixedOrders = true) (ho : CallsOk E.P (oOf E)) (hL : LOk E) {n : Nat} {f : FuncId} (hok : okFn E.P f = true) {args : List Value} {args' : Array Value} {L : List (List Value)} {I : List (Nat × Nat × Nat)} {W : World} (hlen : L.length ≤ 100)
    (hI : ∀ (r : Nat) cells, L[r]? = some cells → ∃ i, I[r]? = some i ∧ RowAt W cells i) (hI2 : I.length = L.length) (hargs : VRs (fun r => I[r]?) args args'.toList) {v : Value} (hv : flat 12 v = true) {vc : Prop}
    (hvc : scall E n f args ⟨ofR L 0 .leaf, L.length⟩ (fun r => r.1 = .ret v) = vc) (h : vc) : Calls E.P f args' W fun e W' => e = .returned v ∧ Below W.heap.size W W' := by
  obtain ⟨m, ⟨e, h'⟩, h1, h2⟩ := scall_sound E hL (hvc.mpr h)
  simp only at h2
  subst h2
  exact law_rows (callO_ok ho (ev_ok hm ho m)) hok hlen hI hI2 hargs hv h1

/-- Over such rows the call returns that. -/
def RowsOk (P : Program) (f : FuncId) (args : List Value) (L : List (List Value)) (v : Value) : Prop :=
  ∀ (W : World) (I : List (Nat × Nat × Nat)) (args' : Array Value), (∀ (r : Nat) cells, L[r]? = some cells → ∃ i, I[r]? = some i ∧ RowAt W cells i) → I.length = L.length → VRs (fun r => I[r]?) args args'.toList →
    Calls P f args' W fun e W' => e = .returned v ∧ Below W.heap.size W W'
theorem rowsOk_of {E : Env} (hm : E.P.follows .mixedOrders = true) (ho : CallsOk E.P (oOf E)) (hL : LOk E) {n : Nat} {f : FuncId} (hok : okFn E.P f = true) {args : List Value} {L : List (List Value)} (hlen : L.length ≤ 100) {v : Value} (hv : flat 12 v = true) {vc : Prop}
    (hvc : scall E n f args ⟨ofR L 0 .leaf, L.length⟩ (fun r => r.1 = .ret v) = vc) (h : vc) : RowsOk E.P f args L v :=
  fun _ _ _ hI hI2 hargs => law_sev hm ho hL hok hlen hI hI2 hargs hv hvc h
theorem rows_one {W : World} {cells : List Value} {i : Nat × Nat × Nat} (h : RowAt W cells i) : ∀ (r : Nat) c, [cells][r]? = some c → ∃ j, [i][r]? = some j ∧ RowAt W c j := by
  intro r c hc
  cases r with
  | zero => simp at hc; subst hc; exact ⟨i, rfl, h⟩
  | succ r => simp at hc

/-! ### An argument that is a slice of numbers -/
theorem ints_row {H : Type} {enc : TypeId × Value → H} {P : Program} {W : World} {t e : TypeId} {k : IntKind} {r : Reach} {b0 : Nat} {v : Value} {d : DataW H} {p : List MemPlace}
    (ht : P.underlying t = some (.slice e)) (he : P.underlying e = some (.int k)) (hc : P.cellsOf e = 1) (hval : Value.okWide P W r b0 t v) (hd : DataW.Trod enc P W 0 (fun _ => true) true t v d p) :
    (v = .slice none 0 0) ∨ ∃ (xs : List Int) (a : Addr) (cap : Nat) (i : Nat × Nat × Nat), v = .slice (some a) xs.length cap ∧ RowAt W (xs.map (Value.int k)) i ∧ (∀ x ∈ xs, (Lit.int k x).wf = true) ∧ xs.length ≤ maxLen ∧
      ∀ (μ : Mu) (q : Nat), μ q = some i → VR μ (.slice (some ⟨q, 0, none⟩) xs.length 1) v := by
  have hsl : v = .slice none 0 0 ∨ ∃ a len cap, v = .slice (some a) len cap ∧ W.has P r b0 a e cap ∧ len ≤ cap := by
    unfold Value.okWide at hval
    rw [ht] at hval
    simp only at hval
    unfold Cell.okWide at hval
    rw [ht] at hval
    simp only at hval
    unfold Cell.ok at hval
    rw [ht] at hval
    cases v <;> try exact hval.elim
    rename_i a len cap
    cases a with
    | none =>
      cases len <;> cases cap <;> first | exact .inl rfl | exact hval.elim
    | some a => exact .inr ⟨a, len, cap, rfl, hval.2.2, hval.1⟩
  rcases hsl with h0 | ⟨a, len, cap, rfl, hhas, hlc⟩
  · exact .inl h0
  right
  obtain ⟨fuel, hf⟩ := hd
  rcases Go.ChangeShapes.open_ints ht he hc hf with ⟨h1, _⟩ | ⟨a', len', cap', zs, h1, _, hl, hm, hzl, _, hcell, hwf⟩
  · simp [Value.cells] at h1
  simp [Value.cells] at h1
  obtain ⟨rfl, rfl, rfl⟩ := h1
  simp only [if_true] at hzl
  obtain ⟨_, hsp, row, cells, hshape, _⟩ := hhas
  obtain ⟨blk, off, spot⟩ := a
  simp only at hsp
  subst hsp
  obtain ⟨c, el, fr, hblk⟩ : ∃ c el fr, W.heap[blk]? = some (.cells c el fr) := by
    unfold World.shape? at hshape
    split at hshape
    · rename_i c el fr hh; exact ⟨c, el, fr, hh⟩
    · simp at hshape
  have hcells : ∀ i, i < zs.length → c[off + i]? = some (.int k (zs.getD i 0)) := by
    intro i hi
    have := hcell i hi
    rw [add_none] at this
    unfold World.cell? at this
    rw [hblk] at this
    simpa using this
  have hlt : zs.length = 0 ∨ off + zs.length ≤ c.size := by
    rcases Nat.eq_zero_or_pos zs.length with h | h
    · exact .inl h
    · right
      have := hcells (zs.length - 1) (by omega)
      have := (Array.getElem?_eq_some_iff.1 this).1
      omega
  have hlen : (zs.take len).length = len := by simp; omega
  refine ⟨zs.take len, ⟨blk, off, none⟩, cap, (blk, if zs.length = 0 then 0 else off, c.size), by rw [hlen], ?_, ?_, by rw [hlen]; omega, ?_⟩
  · refine ⟨c, el, fr, hblk, rfl, ?_, ?_, ?_⟩
    · simp only [List.length_map, hlen]
      split <;> omega
    · simp only [List.length_map, hlen]
      apply List.ext_getElem?
      intro i
      rw [List.getElem?_map, List.getElem?_take, List.getElem?_take]
      split
      · rename_i hi
        have hz : ¬ zs.length = 0 := by omega
        simp only [if_neg hz]
        rw [List.getElem?_drop]
        have := hcells i (by omega)
        rw [← Array.getElem?_toList] at this
        rw [this]
        simp [List.getD, List.getElem?_eq_getElem (show i < zs.length by omega)]
      · rfl
    · rw [List.all_eq_true]
      intro v hv
      obtain ⟨x, _, rfl⟩ := List.mem_map.1 hv
      rfl
  · intro x hx
    exact hwf x (List.mem_of_mem_take hx)
  · intro μ q hq
    rw [hlen]
    by_cases hz : zs.length = 0
    · have e1 : cap = 0 := by omega
      have e2 : len = 0 := by omega
      rw [e1, e2]
      exact .slice0 q 0 1 _
    · rw [if_neg hz] at hq
      have := VR.slice (μ := μ) q 0 len 1 blk off c.size cap hq hlc (by rcases hlt with h | h <;> omega)
      simpa using this

theorem cell_map {k : IntKind} {xs : List Int} {i : Nat} (h : i < xs.length) : (xs.map (Value.int k))[i]? = some (.int k (cellI (xs.map (Value.int k)) i)) ∧ cellI (xs.map (Value.int k)) i = xs.getD i 0 := by
  have e : (xs.map (Value.int k))[i]? = some (.int k (xs[i])) := by rw [List.getElem?_map, List.getElem?_eq_getElem h]; rfl
  constructor
  · unfold cellI; rw [e]
  · unfold cellI; rw [e]; simp [List.getD, List.getElem?_eq_getElem h]
end Go.Sy

/-
  Conditions, eighth part: known calls whose arguments are slices that are only read.
-/
namespace Go.Sy
open Go.Ev Go.RowKit

/-- Arguments as they stand by themselves: each slice over a row of its own, cut to what it shows. -/
def canon (h : Hp) : List Value → Nat → Option (List Value × List (List Value))
  | [], _ => some ([], [])
  | .slice (some ⟨r, k, none⟩) n e :: rest, i =>
    match h.rows.find r with
    | some ⟨cells, _, .cells⟩ =>
      bif decide (k + n * e ≤ cells.length) && ((cells.drop k).take (n * e)).all (flat 12) then
        match canon h rest (i + 1) with
        | some (as, L) => some (.slice (some ⟨i, 0, none⟩) n e :: as, (cells.drop k).take (n * e) :: L)
        | none => none
      else none
    | _ => none
  | v :: rest, i =>
    bif flat 12 v then
      match canon h rest i with
      | some (as, L) => some (v :: as, L)
      | none => none
    else none

section
variable {B : Base} {μ : Mu} {w : World}

theorem row_of {F : Nat → Option Row} {nx : Nat} (hw : WR B μ F nx w) {r k n e : Nat} {cells : List Value} {ro : Bool} (hr : F r = some ⟨cells, ro, .cells⟩) (hk : k + n * e ≤ cells.length) (hfl : ((cells.drop k).take (n * e)).all (flat 12) = true)
    {x' : Value} (hv : VR μ (.slice (some ⟨r, k, none⟩) n e) x') : ∃ i, RowAt w ((cells.drop k).take (n * e)) i ∧ ∀ (μ' : Mu) (q : Nat), μ' q = some i → VR μ' (.slice (some ⟨q, 0, none⟩) n e) x' := by
  obtain ⟨b, o, s, c, el, lo, hi, h1, h2, h3, h4, h5, _, _⟩ := hw.rows r _ hr
  simp only at h3 h4 h5
  have hlen : ((cells.drop k).take (n * e)).length = n * e := by simp; omega
  refine ⟨(b, o + k, s), ⟨c, el, (lo, hi), h2, h3, by simp only; omega, ?_, hfl⟩, fun μ' q hq => ?_⟩
  · simp only
    rw [hlen]
    apply List.ext_getElem?
    intro j
    rw [List.getElem?_take, List.getElem?_take]
    split
    · rename_i hj
      rw [List.getElem?_drop, List.getElem?_drop]
      have hj1 : k + j < cells.length := by omega
      have g1 := List.getElem?_eq_getElem hj1
      obtain ⟨v', g2, g3⟩ := h5.get g1
      rw [List.getElem?_take] at g2
      rw [if_pos hj1, List.getElem?_drop] at g2
      rw [show o + k + j = o + (k + j) by omega, g2, g1]
      have hm : cells[k + j] ∈ (cells.drop k).take (n * e) := by
        rw [List.mem_iff_getElem?]
        exact ⟨j, by rw [List.getElem?_take, if_pos hj, List.getElem?_drop, g1]⟩
      rw [List.all_eq_true] at hfl
      rw [flat_eq _ _ _ (hfl _ hm) g3]
    · rfl
  · cases hv with
    | slice _ _ _ _ b' o' s' cp hm hn hc =>
      rw [h1] at hm
      simp only [Option.some.injEq, Prod.mk.injEq] at hm
      obtain ⟨rfl, rfl, rfl⟩ := hm
      have := VR.slice (μ := μ') q 0 n e b (o + k) s cp hq hn (by omega)
      simpa using this
    | slice0 _ _ _ a => exact .slice0 q 0 e a

theorem canon_sound {h : Hp} (hw : WR B μ h.rows.find h.next w) : ∀ (args args' : List Value) (i : Nat) (as : List Value) (L : List (List Value)), canon h args i = some (as, L) → VRs μ args args' →
    ∃ I : List (Nat × Nat × Nat), I.length = L.length ∧ (∀ (r : Nat) cells, L[r]? = some cells → ∃ j, I[r]? = some j ∧ RowAt w cells j) ∧ ∀ μ' : Mu, (∀ (r : Nat) j, I[r]? = some j → μ' (i + r) = some j) → VRs μ' as args' := by
  intro args
  induction args with
  | nil =>
    intro args' i as L hc hv
    simp [canon] at hc
    obtain ⟨rfl, rfl⟩ := hc
    cases args' with
    | nil => exact ⟨[], rfl, fun r c h => by simp at h, fun _ _ => .nil⟩
    | cons => have := hv.1; simp at this
  | cons a rest ih =>
    intro args' i as L hc hv
    obtain ⟨b, m', rfl, hab, hrest⟩ := VRs.uncons hv
    have flatcase : ∀ v, (bif flat 12 v then (match canon h rest i with | some (as, L) => some (v :: as, L) | none => none) else none) = some (as, L) → VR μ v b →
        ∃ I : List (Nat × Nat × Nat), I.length = L.length ∧ (∀ (r : Nat) cells, L[r]? = some cells → ∃ j, I[r]? = some j ∧ RowAt w cells j) ∧ ∀ μ' : Mu, (∀ (r : Nat) j, I[r]? = some j → μ' (i + r) = some j) → VRs μ' as (b :: m') := by
      intro v hc hvb
      cases hf : flat 12 v with
      | false => rw [hf] at hc; simp at hc
      | true =>
        rw [hf] at hc
        simp only [cond_true] at hc
        split at hc
        · rename_i as0 L0 h0
          simp only [Option.some.injEq, Prod.mk.injEq] at hc
          obtain ⟨rfl, rfl⟩ := hc
          obtain ⟨I, g1, g2, g3⟩ := ih _ _ _ _ h0 hrest
          refine ⟨I, g1, g2, fun μ' hμ => .cons ?_ (g3 μ' hμ)⟩
          rw [flat_eq _ _ _ hf hvb]
          exact flat_refl _ _ hf
        · simp at hc
    unfold canon at hc
    split at hc
    · rename_i e; simp at e
    · rename_i i _ _ r k n e rest0 heq
      simp only [List.cons.injEq] at heq
      obtain ⟨rfl, rfl⟩ := heq
      split at hc
      · rename_i cells ro hr
        cases hb : (decide (k + n * e ≤ cells.length) && ((cells.drop k).take (n * e)).all (flat 12)) with
        | false => rw [hb] at hc; simp at hc
        | true =>
          rw [hb] at hc
          simp only [cond_true] at hc
          simp only [Bool.and_eq_true, decide_eq_true_eq] at hb
          split at hc
          · rename_i as0 L0 h0
            simp only [Option.some.injEq, Prod.mk.injEq] at hc
            obtain ⟨rfl, rfl⟩ := hc
            obtain ⟨I, g1, g2, g3⟩ := ih _ _ _ _ h0 hrest
            obtain ⟨j, j1, j2⟩ := row_of hw hr hb.1 hb.2 hab
            refine ⟨j :: I, by simp [g1], fun q c hq => ?_, fun μ' hμ => .cons (j2 μ' i (by simpa using hμ 0 j rfl)) (g3 μ' fun q t hq => ?_)⟩
            · cases q with
              | zero => simp at hq; subst hq; exact ⟨j, rfl, j1⟩
              | succ q => simp at hq; obtain ⟨t, t1, t2⟩ := g2 q c hq; exact ⟨t, by simpa using t1, t2⟩
            · have := hμ (q + 1) t (by simpa using hq)
              rw [show i + 1 + q = i + (q + 1) by omega]; exact this
          · simp at hc
      · simp at hc
    · rename_i v rest0 hne heq
      simp only [List.cons.injEq] at heq
      obtain ⟨rfl, rfl⟩ := heq
      exact flatcase _ hc hab
end

/-- Known calls whose arguments are only read, their results without addresses. -/
theorem calls_rows {E : Env} (hT : ∀ f args h p v h', E.T f args h = some (p, v, h') → p → h' = h ∧ flat 12 v = true ∧ ∃ as L, canon h args 0 = some (as, L) ∧ RowsOk E.P f as L v) : CallsOk E.P (oOf E) := by
  intro B f args h r h' μ w args' he hw hargs hok
  unfold oOf at he
  split at he
  · rename_i p v h2 ht
    split at he
    · rename_i hp
      simp only [Option.some.injEq, Prod.mk.injEq] at he
      obtain ⟨rfl, rfl⟩ := he
      obtain ⟨rfl, hv, as, L, hc, hro⟩ := hT _ _ _ _ _ _ ht hp
      obtain ⟨I, g1, g2, g3⟩ := canon_sound hw _ _ _ _ _ hc hargs
      refine (hro w I args' g2 g1 (g3 _ fun r j hj => by simpa using hj)).mono ?_
      rintro e w' ⟨rfl, hb⟩
      obtain ⟨k1, k2⟩ := wr_below hw hb
      exact ⟨μ, Le.refl _, k1, k2, flat_refl _ _ hv⟩
    · simp at he
  · simp at he

theorem rowsOk_flat {P : Program} {f : FuncId} {args : List Value} {v : Value} (hf : args.all (flat 12) = true) (h : Flat P f args v) : RowsOk P f args [] v := by
  intro W I args' _ _ hargs
  rw [flat_args hf hargs]
  exact h W
theorem canon_flat (h : Hp) : ∀ (args : List Value) (i : Nat), args.all (flat 12) = true → canon h args i = some (args, []) := by
  intro args
  induction args with
  | nil => intro i _; rfl
  | cons a r ih =>
    intro i hf
    simp only [List.all_cons, Bool.and_eq_true] at hf
    unfold canon
    split
    · rename_i e; simp at e
    · rename_i heq; simp only [List.cons.injEq] at heq; rw [heq.1] at hf; simp [flat] at hf
    · rename_i heq
      simp only [List.cons.injEq] at heq
      obtain ⟨rfl, rfl⟩ := heq
      rw [hf.1, ih _ hf.2]; rfl
/-- A call without addresses among its arguments, in the form of `calls_rows`. -/
theorem flat_rows {P : Program} {f : FuncId} {args : List Value} {v : Value} {h : Hp} (hf : args.all (flat 12) = true) (hv : flat 12 v = true) (hc : Flat P f args v) : h = h ∧ flat 12 v = true ∧ ∃ as L, canon h args 0 = some (as, L) ∧ RowsOk P f as L v :=
  ⟨rfl, hv, args, [], canon_flat h args 0 hf, rowsOk_flat hf hc⟩
end Go.Sy
