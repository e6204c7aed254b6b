/- A region of open order in which one operation panics and the others that may come before it only read. -/
import Derived.Test.YtekijelmdajhlaaSz9
import Derived.Test.YtekijelmdajhlaaRows
import Derived.Test.YtekijelmdajhlaaLtok
set_option linter.unusedSimpArgs false
set_option linter.unusedVariables false
namespace Go.Proofs.Ytekijelmdajhlaa.gm
open Go Go.Ev Go.Sy Go.RowKit
def qOp (o : Oper) : Bool := (match o.guard with | none => true | some _ => false) && (match kind o with | .quiet => true | _ => false)
def qS (E : Env) (l : List Oper) (ms : List Nat) (ov : Tr Value) (rows : Tr Row) (e : Nat) : List Oper → Nat → List Value → (List Value → Prop) → Prop
  | [], _, vs, k => k vs
  | o :: r, i, vs, k =>
    bif Nat.beq i e || Nat.testBit (mk ms i) e then apK vs [undef] fun vs => qS E l ms ov rows e r (i + 1) vs k
    else need (qOp o) (sQ E (skV l ms ov vs i) rows o fun v => nv v fun v => apK vs [v] fun vs => qS E l ms ov rows e r (i + 1) vs k)
def dOk (l : List Oper) (nt : Nat) : Bool := l.all fun o => match o.dst with | none => true | some d => Nat.blt d nt && Nat.blt d Tr.top
def sMid (E : Env) (ops : Array Oper) (fr : Fr) (h : Hp) (e : Nat) (k : Value → Prop) : Prop :=
  need (edgesBack ops.toList 0 && dstsOnce ops.toList ops.toList 0 && dOk ops.toList fr.nt) <|
    msK (masks ops.toList) fun ms =>
    qS E ops.toList ms fr.tm h.rows e ops.toList 0 [] fun vs =>
      match ops.toList[e]? with
      | some o =>
        match o.guard, o.op with
        | none, .binOp .quo _ x y _ =>
          (match skV ops.toList ms fr.tm (vs.take e) e x, skV ops.toList ms fr.tm (vs.take e) e y with
          | some (.int ka _), some (.int kb b) => bif decide (ka = kb) then b = 0 ∧ k (divV E.P) else False
          | _, _ => False)
        | _, _ => False
      | none => False
def specMid (E : Env) (f : FuncId) (p : List Nat) (e : Nat) : Sy.Spec := fun fr u h K =>
  match codeOf E.P f p with
  | .region _ ops true => sMid E ops fr h e fun v => ∀ tm : Tr Value, K (.panic [{ v, recovered := false }], ⟨tm, fr.nt, fr.df⟩, u, h)
  | _ => False
def sCallE (E : Env) (ops : Array Oper) (fr : Fr) (h : Hp) (e : Nat) (k : Ex → Hp → Prop) : Prop :=
  need (edgesBack ops.toList 0 && dstsOnce ops.toList ops.toList 0 && dOk ops.toList fr.nt) <|
    msK (masks ops.toList) fun ms =>
    need ((List.range ops.toList.length).all fun j => Nat.beq j e || Nat.testBit (mk ms e) j) <|
    qS E ops.toList ms fr.tm h.rows e ops.toList 0 [] fun vs =>
      match ops.toList[e]? with
      | some o =>
        match o.guard, o.op with
        | none, .call c =>
          match c.callee with
          | .value f =>
            match aCall E.P (skV ops.toList ms fr.tm (vs.take e) e) f c.args.toList with
            | some (fid, a, b, d) =>
              match E.T fid (a ++ b ++ d) h with
              | some (p, v, h') => p ∧ sEnd v fun x => match x with | .ret _ => k .normal h' | .pan ch => k (.panic ch) h'
              | none => False
            | none => False
          | _ => False
        | _, _ => False
      | none => False
def specCallE (E : Env) (f : FuncId) (p : List Nat) (e : Nat) : Sy.Spec := fun fr u h K =>
  match codeOf E.P f p with
  | .region _ ops true => sCallE E ops fr h e fun x h' => ∀ tm : Tr Value, K (x, ⟨tm, fr.nt, fr.df⟩, u, h')
  | _ => False
section
variable {P : Program} {B : Base} {ops : Array Oper} {fr : Fr} {vs : List Value}
def sl2 (ops : Array Oper) (tm : Tr Value) (vs : List Value) (D : Nat → Bool) (x : Tmp) : Value :=
  match wrOf ops.toList 0 x with
  | some j => if D j = true then vs.getD j undef else (tm.find x).getD undef
  | none => (tm.find x).getD undef
theorem dV2 {D : Nat → Bool} (hD : Down ops D) {i : Nat} {o : Oper} (hr : Ready ops D i o) {a : Act} {μ : Mu} {tm : Tr Value} (hget : ∀ x, VR μ (sl2 ops tm vs D x) (a.tmps.getD x undef)) :
    ∀ x v, dV ops.toList (masks ops.toList) tm (vs.take i) i x = some v → VR μ v (a.eval x) := by
  intro x v hv
  cases x with
  | tmp t =>
    have hg := hget t
    simp only [Act.eval]
    have init : (match tm.find t with | some v => some v | none => some undef) = some v → (tm.find t).getD undef = v := by
      intro h; cases hfn : tm.find t <;> simp [hfn] at h <;> simp [h]
    unfold sl2 at hg
    simp only [dV] at hv
    cases hw : wrOf ops.toList 0 t with
    | none => rw [hw] at hv hg; rw [init hv] at hg; exact hg
    | some j =>
      rw [hw] at hv hg
      simp only at hv hg
      obtain ⟨_, oj, hoj, _⟩ := wrOf_spec _ _ _ _ hw
      have hjl := (List.getElem?_eq_some_iff.1 hoj).1
      simp only [Nat.sub_zero] at hjl
      cases hb : (mk (masks ops.toList) i).testBit j with
      | true =>
        rw [hb] at hv
        simp only [cond_true] at hv
        rw [if_pos (ready_mask hD hr hb)] at hg
        have hv2 : vs[j]? = some v := by
          rw [List.getElem?_take] at hv
          split at hv
          · exact hv
          · simp at hv
        rw [List.getD_eq_getElem?_getD, hv2] at hg
        exact hg
      | false =>
        rw [hb] at hv
        simp only [cond_false] at hv
        have hDj : ((mk (masks ops.toList) j).testBit i || Nat.beq j i) = true → D j = false := by
          intro h
          simp only [Bool.or_eq_true] at h
          rcases h with h | h
          · exact ready_not hD hr hjl h
          · have := Nat.eq_of_beq_eq_true h; subst this; exact hr.new
        cases hc : (mk (masks ops.toList) j).testBit i || Nat.beq j i with
        | false => rw [hc] at hv; simp at hv
        | true =>
          rw [hc] at hv
          simp only [cond_true] at hv
          rw [if_neg (by rw [hDj hc]; simp), init hv] at hg
          exact hg
  | const c =>
    simp only [dV] at hv
    cases hfl : flat 12 c with
    | false => rw [hfl] at hv; simp at hv
    | true => rw [hfl] at hv; simp at hv; subst hv; exact flat_refl _ _ hfl
  | func f => simp only [dV, Option.some.injEq] at hv; subst hv; exact .func _ _ _ _ _ rfl rfl (fun i h => by simp at h) (fun i h => by simp at h)
  | global g => simp [dV] at hv
theorem put2 (honce : dstsOnce ops.toList ops.toList 0 = true) (hdst : dOk ops.toList fr.nt = true) {D : Nat → Bool} {i : Nat} {o : Oper} (hr : Ready ops D i o) {a : Act} {μ : Mu} (hsize : a.tmps.size = fr.nt) {tm : Tr Value} (hget : ∀ x, VR μ (sl2 ops tm vs D x) (a.tmps.getD x undef))
    {v v' : Value} (hv : vs[i]? = some v) (hvr : VR μ v v') : (a.put o.dst v').tmps.size = fr.nt ∧ ∀ x, VR μ (sl2 ops tm vs (add D i) x) ((a.put o.dst v').tmps.getD x undef) := by
  have same : ∀ x, wrOf ops.toList 0 x ≠ some i → sl2 ops tm vs (add D i) x = sl2 ops tm vs D x := by
    intro x hx
    unfold sl2
    cases hw : wrOf ops.toList 0 x with
    | none => rfl
    | some j =>
      have : j ≠ i := fun e => hx (by rw [hw, e])
      simp [add, this]
  cases hd : o.dst with
  | none =>
    refine ⟨hsize, fun x => ?_⟩
    rw [same x ?_]
    · exact hget x
    · intro hw
      obtain ⟨_, oj, hoj, hdj⟩ := wrOf_spec _ _ _ _ hw
      simp only [Nat.sub_zero, hr.op, Option.some.injEq] at hoj
      subst hoj
      rw [hd] at hdj; simp at hdj
  | some d =>
    have hwd : wrOf ops.toList 0 d = some i := by
      have := dstsOnce_spec ops.toList ops.toList 0 honce i o d hr.op hd
      simpa using this
    have hd1 : d < fr.nt := by
      unfold dOk at hdst
      rw [List.all_eq_true] at hdst
      have := hdst o (List.mem_of_getElem? hr.op)
      rw [hd] at this
      simp only [Bool.and_eq_true] at this
      exact Nat.le_of_ble_eq_true this.1
    refine ⟨by simp [Act.put, hsize], fun x => ?_⟩
    by_cases hx : x = d
    · subst hx
      have : ((a.put (some x) v').tmps.getD x undef) = v' := by simp [Act.put, Array.getD_eq_getD_getElem?, hsize, hd1]
      rw [this]
      unfold sl2
      rw [hwd]
      simp only [add, decide_true, Bool.or_true, if_true]
      rw [List.getD_eq_getElem?_getD, hv]
      exact hvr
    · rw [same x]
      · have : ((a.put (some d) v').tmps.getD x undef) = a.tmps.getD x undef := by
          simp [Act.put, Array.getD_eq_getD_getElem?, Array.getElem?_setIfInBounds_ne (Ne.symm hx)]
        rw [this]; exact hget x
      · intro hw
        obtain ⟨_, oj, hoj, hdj⟩ := wrOf_spec _ _ _ _ hw
        simp only [Nat.sub_zero, hr.op, Option.some.injEq] at hoj
        subst hoj
        rw [hd] at hdj; simp at hdj; exact hx hdj.symm
theorem tm2 (tm : Tr Value) (ops : Array Oper) (nt : Nat) (hdst : dOk ops.toList nt = true) (honce : dstsOnce ops.toList ops.toList 0 = true) (vs : List Value) (D : Nat → Bool) : ∀ n, n ≤ ops.toList.length → ∃ tm' : Tr Value, ∀ x, (tm'.find x).getD undef = sl2 ops tm vs (fun j => D j && decide (j < n)) x
  | 0, _ => ⟨tm, fun x => by unfold sl2; split <;> simp⟩
  | n + 1, h => by
    obtain ⟨t, ht⟩ := tm2 tm ops nt hdst honce vs D n (by omega)
    have hn : n < ops.toList.length := by omega
    cases hd : (ops.toList[n]).dst with
    | none =>
      refine ⟨t, fun x => ?_⟩
      rw [ht]
      unfold sl2
      cases hw : wrOf ops.toList 0 x with
      | none => rfl
      | some j =>
        obtain ⟨_, oj, hoj, hdj⟩ := wrOf_spec _ _ _ _ hw
        simp only [Nat.sub_zero] at hoj
        have : j ≠ n := by
          rintro rfl
          rw [List.getElem?_eq_getElem hn] at hoj
          simp only [Option.some.injEq] at hoj
          subst hoj; rw [hd] at hdj; simp at hdj
        have e : decide (j < n) = decide (j < n + 1) := by by_cases h1 : j < n <;> simp [h1] <;> omega
        simp only [e]
    | some d =>
      have hd1 : d < Tr.top := by
        unfold dOk at hdst
        rw [List.all_eq_true] at hdst
        have := hdst _ (List.getElem_mem hn)
        rw [hd] at this
        simp only [Bool.and_eq_true] at this
        exact Nat.le_of_ble_eq_true this.2
      have hwd : wrOf ops.toList 0 d = some n := by
        have := dstsOnce_spec ops.toList ops.toList 0 honce n _ d (List.getElem?_eq_getElem hn) hd
        simpa using this
      refine ⟨t.put d (some (sl2 ops tm vs (fun j => D j && decide (j < n + 1)) d)), fun x => ?_⟩
      rw [Tr.find_put _ _ _ _ hd1]
      by_cases hx : x = d
      · subst hx; rw [if_pos rfl]; rfl
      · rw [if_neg hx, ht]
        unfold sl2
        cases hw : wrOf ops.toList 0 x with
        | none => rfl
        | some j =>
          obtain ⟨_, oj, hoj, hdj⟩ := wrOf_spec _ _ _ _ hw
          simp only [Nat.sub_zero] at hoj
          have : j ≠ n := by
            rintro rfl
            rw [List.getElem?_eq_getElem hn] at hoj
            simp only [Option.some.injEq] at hoj
            subst hoj; rw [hd] at hdj; simp only [Option.some.injEq] at hdj; exact hx hdj.symm
          have e : decide (j < n) = decide (j < n + 1) := by by_cases h1 : j < n <;> simp [h1] <;> omega
          simp only [e]
theorem mid_any (hback : edgesBack ops.toList 0 = true) (honce : dstsOnce ops.toList ops.toList 0 = true) (hdst : dOk ops.toList fr.nt = true) {tm : Tr Value} {h : Hp} {e : Nat} {oe : Oper} (he : ops.toList[e]? = some oe) (hge : oe.guard = none)
    (hq : ∀ (j : Nat) o, ops.toList[j]? = some o → j = e ∨ (mk (masks ops.toList) j).testBit e = true ∨ (o.guard = none ∧ ∃ v, vs[j]? = some v ∧ evQ P (dV ops.toList (masks ops.toList) tm (vs.take j) j) h.rows o = some v))
    {a0 : Act} {μ : Mu} {w : World} (hw : WR B μ h.rows.find h.next w) {Q : Exit → Act → World → Prop}
    (hE : ∀ (D : Nat → Bool) a' (fuel : Nat) (listed : Array Bool), Down ops D → Ready ops D e oe → a'.tmps.size = fr.nt → (∀ x, VR μ (sl2 ops tm vs D x) (a'.tmps.getD x undef)) → a'.defers = a0.defers → listed.size = ops.size → (∀ j, D j = true → listed.getD j false = true) → listed.getD e false = true → oe.wp P a' w (wpAny P .any ops Q fuel listed) Q) :
    ∀ (fuel : Nat) (listed : Array Bool) (a : Act), listed.size = ops.size → left listed.toList ≤ fuel → Down ops (fun i => listed.getD i false) → (∀ j, (j = e ∨ (mk (masks ops.toList) j).testBit e = true) → listed.getD j false = false) →
      a.tmps.size = fr.nt → (∀ x, VR μ (sl2 ops tm vs (fun i => listed.getD i false) x) (a.tmps.getD x undef)) → a.defers = a0.defers → wpAny P .any ops Q fuel listed a w := by
  have hel : e < ops.toList.length := (List.getElem?_eq_some_iff.1 he).1
  have full : ∀ (listed : Array Bool), listed.size = ops.size → left listed.toList = 0 → ∀ i, i < ops.toList.length → listed.getD i false = true := by
    intro listed hsz h0 i hi
    have := left_zero _ h0 i (by simp at hi ⊢; omega)
    rw [Array.getD_eq_getD_getElem?]
    have h2 : listed[i]? = some true := by simpa using this
    rw [h2]; rfl
  have readyIff : ∀ (listed : Array Bool) i, listed.size = ops.size → i ∈ Region.ready .any ops listed → ∃ o, Ready ops (fun i => listed.getD i false) i o := by
    intro listed i hsz hi
    unfold Region.ready at hi
    rw [List.mem_filter] at hi
    obtain ⟨h1, h2⟩ := hi
    have hlt : i < ops.size := by simpa using h1
    obtain ⟨o, ho⟩ : ∃ o, ops[i]? = some o := ⟨ops[i], Array.getElem?_eq_getElem hlt⟩
    rw [ho] at h2
    simp only [Option.map_some, Option.getD_some, Bool.and_eq_true, Bool.not_eq_true'] at h2
    refine ⟨o, by simpa using ho, by simpa using hlt, ?_, fun e he hb => ?_⟩
    · have := h2.1
      rw [Array.getD_eq_getD_getElem?] at this ⊢
      rw [Array.getElem?_eq_getElem (by omega)] at this ⊢
      simpa using this
    · have h3 := h2.2
      rw [← Array.all_toList, List.all_eq_true] at h3
      have := h3 e he
      simp only [hb, Bool.not_true, Bool.false_or] at this
      exact this
  have notStuck : ∀ (listed : Array Bool), listed.size = ops.size → Region.ready .any ops listed = [] → ∀ i, i < ops.toList.length → listed.getD i false = true := by
    intro listed hsz hr i
    induction i using Nat.strongRecOn with
    | _ i ih =>
      intro hi
      cases hd : listed.getD i false with
      | true => rfl
      | false =>
        have hlt : i < ops.size := by simpa using hi
        obtain ⟨o, ho⟩ : ∃ o, ops[i]? = some o := ⟨ops[i], Array.getElem?_eq_getElem hlt⟩
        have hol : ops.toList[i]? = some o := by simpa using ho
        have : i ∈ Region.ready .any ops listed := by
          unfold Region.ready
          rw [List.mem_filter]
          refine ⟨by simpa using hlt, ?_⟩
          rw [ho]
          simp only [Option.map_some, Option.getD_some, Bool.and_eq_true, Bool.not_eq_true']
          refine ⟨?_, ?_⟩
          · rw [Array.getD_eq_getD_getElem?] at hd ⊢
            rw [Array.getElem?_eq_getElem (by omega)] at hd ⊢
            simpa using hd
          · rw [← Array.all_toList, List.all_eq_true]
            intro e he
            cases hb : Region.binds .any e with
            | false => simp
            | true =>
              have := edgesBack_spec _ 0 hback i o hol e he hb
              simp only [Bool.not_true, Bool.false_or]
              exact ih e.on (by omega) (by omega)
        rw [hr] at this; simp at this
  intro fuel
  induction fuel with
  | zero =>
    intro listed a hsz hl hD hA
    have := full listed hsz (by omega) e hel
    rw [hA e (.inl rfl)] at this; simp at this
  | succ fuel ih =>
    intro listed a hsz hl hD hA hs1 hs2 hs3
    refine ⟨fun hr => by have := notStuck listed hsz hr e hel; rw [hA e (.inl rfl)] at this; simp at this, fun i hi => ?_⟩
    obtain ⟨o, hr⟩ := readyIff listed i hsz hi
    have hoi : ops[i]? = some o := by have := hr.op; simpa using this
    have hlt : i < ops.size := by have := hr.lt; simpa using this
    have hnew : listed.toList[i]? = some false := by
      have : listed.getD i false = false := hr.new
      rw [Array.getD_eq_getD_getElem?, Array.getElem?_eq_getElem (by omega)] at this
      simp only [Option.getD_some] at this
      rw [Array.getElem?_toList, Array.getElem?_eq_getElem (by omega), this]
    have hset : (fun j => (listed.setIfInBounds i true).getD j false) = add (fun j => listed.getD j false) i := by
      funext j
      show (listed.setIfInBounds i true).getD j false = (listed.getD j false || decide (j = i))
      rw [Array.getD_eq_getD_getElem?, Array.getD_eq_getD_getElem?]
      by_cases hji : j = i
      · subst hji
        rw [Array.getElem?_setIfInBounds_self_of_lt (by omega)]; simp
      · rw [Array.getElem?_setIfInBounds_ne (Ne.symm hji)]; simp [hji]
    unfold wpOp
    rw [hoi]
    simp only
    by_cases hie : i = e
    · subst hie
      have : o = oe := by have := hr.op; rw [he] at this; simpa using this.symm
      subst this
      have hwt : Region.wanted o (yielded ops a.tmps) = true := by unfold Region.wanted; rw [hge]
      rw [hwt]
      simp only [if_true]
      left
      refine hE _ a fuel _ hD hr hs1 hs2 hs3 (by simp [hsz]) (fun j hj => ?_) ?_
      · have := congrFun hset j
        have hj2 : listed.getD j false = true := hj
        rw [this]; show (listed.getD j false || decide (j = i)) = true; rw [hj2]; rfl
      · have := congrFun hset i
        rw [this]; simp [add]
    rcases hq i o hr.op with h0 | hm | ⟨hg, v, hv, hev⟩
    · exact absurd h0 hie
    · have := ready_mask hD hr hm
      have h0 : listed.getD e false = false := hA e (.inl rfl)
      rw [h0] at this; simp at this
    · have hwt : Region.wanted o (yielded ops a.tmps) = true := by unfold Region.wanted; rw [hg]
      rw [hwt]
      simp only [if_true]
      left
      obtain ⟨v', h1, h2⟩ := evQ_sound (P := P) (w := w) hw (dV2 hD hr hs2) hev
      unfold Oper.wp
      rw [h1, Oper.upon_value]
      obtain ⟨q1, q2⟩ := put2 honce hdst hr hs1 hs2 hv h2
      have hni : i ≠ e ∧ (mk (masks ops.toList) i).testBit e = false := by
        constructor
        · exact hie
        · cases hb : (mk (masks ops.toList) i).testBit e with
          | false => rfl
          | true => have := ready_mask hD hr hb; have h0 : listed.getD e false = false := hA e (.inl rfl); rw [h0] at this; simp at this
      refine ih _ _ (by simp [hsz]) ?_ ?_ ?_ q1 ?_ ?_
      · have := left_set _ i hnew
        rw [Array.toList_setIfInBounds]; omega
      · rw [hset]; exact add_down hD hr
      · intro j hj
        have := congrFun hset j
        rw [this]
        have hji : j ≠ i := by
          rintro rfl
          rcases hj with hj | hj
          · exact hni.1 hj
          · rw [hni.2] at hj; simp at hj
        simp [add, hA j hj, hji]
      · rw [hset]; exact q2
      · rw [← hs3]; cases o.dst <;> rfl
theorem wants_none {o : Oper} (h : qOp o = true) : o.guard = none ∧ kind o = .quiet := by
  unfold qOp at h
  rw [Bool.and_eq_true] at h
  obtain ⟨h1, h2⟩ := h
  constructor
  · cases hg : o.guard with
    | none => rfl
    | some g => rw [hg] at h1; simp at h1
  · cases hk : kind o with
    | quiet => rfl
    | _ => rw [hk] at h2; simp at h2
theorem qS_sound {E : Env} {l : List Oper} {ms : List Nat} {ov tm : Tr Value} (hs : Sub ov tm) {rows : Tr Row} {e : Nat} {k : List Value → Prop} : ∀ (r : List Oper) (i : Nat) (vs : List Value), vs.length = i → qS E l ms ov rows e r i vs k →
    ∃ ws, k (vs ++ ws) ∧ ws.length = r.length ∧ ∀ (j : Nat) o, r[j]? = some o → (i + j = e ∨ (mk ms (i + j)).testBit e = true ∨ (o.guard = none ∧ ∃ v, (vs ++ ws)[i + j]? = some v ∧ evQ E.P (dV l ms tm ((vs ++ ws).take (i + j)) (i + j)) rows o = some v))
  | [], i, vs, _, h => ⟨[], by simpa [qS] using h, rfl, fun j o hj => by simp at hj⟩
  | o :: r, i, vs, hl, h => by
    simp only [qS] at h
    have step : ∀ v : Value, qS E l ms ov rows e r (i + 1) (vs ++ [v]) k → (i = e ∨ (mk ms i).testBit e = true ∨ (o.guard = none ∧ evQ E.P (dV l ms tm vs i) rows o = some v)) →
        ∃ ws, k (vs ++ ws) ∧ ws.length = (o :: r).length ∧ ∀ (j : Nat) o', (o :: r)[j]? = some o' → (i + j = e ∨ (mk ms (i + j)).testBit e = true ∨ (o'.guard = none ∧ ∃ v, (vs ++ ws)[i + j]? = some v ∧ evQ E.P (dV l ms tm ((vs ++ ws).take (i + j)) (i + j)) rows o' = some v)) := by
      intro v hk h0
      obtain ⟨ws, q1, q2, q3⟩ := qS_sound hs r (i + 1) (vs ++ [v]) (by simp [hl]) hk
      refine ⟨v :: ws, by simpa using q1, by simp [q2], fun j o' hj => ?_⟩
      cases j with
      | zero =>
        simp only [List.getElem?_cons_zero, Option.some.injEq] at hj
        subst hj
        simp only [Nat.add_zero]
        rcases h0 with h0 | h0 | ⟨h0, h1⟩
        · exact .inl h0
        · exact .inr (.inl h0)
        · exact .inr (.inr ⟨h0, v, by rw [← hl]; simp, by rw [← hl, List.take_left' rfl, hl]; exact h1⟩)
      | succ j =>
        simp only [List.getElem?_cons_succ] at hj
        have := q3 j o' hj
        simp only [List.append_assoc, List.singleton_append, show i + 1 + j = i + (j + 1) by omega] at this
        exact this
    cases hb : (Nat.beq i e || Nat.testBit (mk ms i) e) with
    | true =>
      rw [hb] at h
      simp only [cond_true, apK_eq] at h
      rw [Bool.or_eq_true] at hb
      refine step undef h ?_
      rcases hb with hb | hb
      · exact .inl (Nat.eq_of_beq_eq_true hb)
      · exact .inr (.inl hb)
    | false =>
      rw [hb] at h
      simp only [cond_false] at h
      obtain ⟨h1, h2⟩ := need_spec h
      obtain ⟨v, h3, h4⟩ := sQ_sound E (skV_le hs vs i) h2
      rw [nv_eq, apK_eq] at h4
      exact step v h4 (.inr (.inr ⟨(wants_none h1).1, h3⟩))
theorem region_mid {E : Env} {n0 : Nat} (hm : E.P.follows .mixedOrders = true) {id : Nat} {e : Nat} {u : Option FrameMode} {h : Hp} {K : KO} (hs : sMid E ops fr h e fun v => ∀ tm : Tr Value, K (.panic [{ v, recovered := false }], ⟨tm, fr.nt, fr.df⟩, u, h)) :
    OkM E n0 false (.region id ops true) fr u h K := by
  intro B μ0 F0 w0 cs0 kd μ a cs w tm hB hG hsub hsr
  unfold sMid at hs
  obtain ⟨h0, hs⟩ := need_spec hs
  simp only [Bool.and_eq_true] at h0
  obtain ⟨⟨hback, honce⟩, hdst⟩ := h0
  rw [msK_eq] at hs
  obtain ⟨ws, hk, hlen, hq⟩ := qS_sound hsub _ 0 [] rfl hs
  simp only [List.nil_append, Nat.zero_add] at hk hq
  split at hk
  rotate_left
  · exact hk.elim
  rename_i oe hoe
  split at hk
  rotate_left
  · exact hk.elim
  rename_i ty x y ty2 hge hop
  split at hk
  rotate_left
  · exact hk.elim
  rename_i ka va kb vb hx hy
  cases hkk : decide (ka = kb) with
  | false => rw [hkk] at hk; exact hk.elim
  | true =>
  rw [hkk] at hk
  simp only [cond_true] at hk
  obtain ⟨rfl, hk⟩ := hk
  have hx' := skV_le hsub _ _ _ _ hx
  have hy' := skV_le hsub _ _ _ _ hy
  have hpe : evE E.P (dV ops.toList (masks ops.toList) tm (ws.take e) e) h oe = some (.panic (divV E.P), h) := by
    unfold evE
    rw [hop]
    simp only [div0, hx', hy', hkk, decide_true, Bool.and_self, cond_true]
  refine wi_of_wp (wp_region_any hm (mid_any (P := E.P) (fr := fr) (vs := ws) (tm := tm) hback honce hdst hoe hge hq (a0 := a) (hsr.wr.drew (w.drawn + 1)) ?_ ops.size (Array.replicate ops.size false) a (by simp) ?_ ?_ ?_ hsr.ar.size ?_ rfl))
  · intro D a' fuel listed hD hr q1 q20 q3 _ _ _
    obtain ⟨μ', w', l1, wr1, kp1, hout⟩ := evE_sound (hsr.wr.drew (w.drawn + 1)) (dV2 hD hr q20) hpe
    obtain ⟨v', hr2, hvr⟩ := hout
    have q2 := fun x => (q20 x).le l1
    unfold Oper.wp
    rw [hr2, Oper.upon_panic]
    obtain ⟨tm', ht⟩ := tm2 tm ops fr.nt hdst honce ws D _ (Nat.le_refl _)
    refine ⟨(.panic [{ v := divV E.P, recovered := false }], ⟨tm', fr.nt, fr.df⟩, u, h), ⟨tm', Sub.refl _, hk tm'⟩, μ', ⟨⟨q1, fun x => ?_, by rw [q3]; exact hsr.ar.dlen, fun i d d' g1 g2 => by rw [q3] at g2; exact (hsr.ar.dget i d d' g1 g2).le l1⟩, wr1, hsr.kp.trans ((Keep.drew _ _ _ _).trans kp1), hsr.le.trans l1, hsr.cr.le l1, hsr.kdef⟩, ⟨⟨hvr, rfl, rfl⟩, trivial⟩, hsr.kdef⟩
    rw [ht]
    have := q2 x
    unfold sl2 at this ⊢
    cases hw : wrOf ops.toList 0 x with
    | none => rw [hw] at this; exact this
    | some j =>
      rw [hw] at this
      obtain ⟨_, oj, hoj, hdj⟩ := wrOf_spec _ _ _ _ hw
      have hjl := (List.getElem?_eq_some_iff.1 hoj).1
      simp only [Nat.sub_zero] at hjl
      simp only at this ⊢
      have e2 : (D j && decide (j < ops.toList.length)) = D j := by simp; intro _; simpa using hjl
      simp only [e2]; exact this
  · have : ∀ n : Nat, left (List.replicate n false) = n := by
      intro n
      induction n with
      | zero => rfl
      | succ n ih => rw [List.replicate_succ]; simp [left, ih]; omega
    simp [this]
  · intro i o e _ hd
    simp only [rep_false] at hd
    simp at hd
  · intro j _; exact rep_false _ j
  · intro x
    have e3 : sl2 ops tm ws (fun i => (Array.replicate ops.size false).getD i false) x = (tm.find x).getD undef := by
      unfold sl2
      split
      · exact if_neg (by show ¬ (Array.replicate ops.size false).getD _ false = true; rw [rep_false]; simp)
      · rfl
    rw [e3]; exact hsr.ar.get x
theorem wpAny_done {P : Program} {Q : Exit → Act → World → Prop} {listed : Array Bool} (hsz : listed.size = ops.size) (hall : ∀ i, i < ops.toList.length → listed.getD i false = true) {a : Act} {w : World} (hQ : Q .normal a w) : ∀ fuel, wpAny P .any ops Q fuel listed a w := by
  have hr : Region.ready .any ops listed = [] := by
    cases hr : Region.ready .any ops listed with
    | nil => rfl
    | cons i r =>
      have hi : i ∈ Region.ready .any ops listed := by rw [hr]; simp
      unfold Region.ready at hi
      rw [List.mem_filter] at hi
      obtain ⟨h1, h2⟩ := hi
      have hlt : i < ops.size := by simpa using h1
      rw [Array.getElem?_eq_getElem hlt] at h2
      simp only [Option.map_some, Option.getD_some, Bool.and_eq_true, Bool.not_eq_true'] at h2
      have h3 := h2.1
      have h4 := hall i (by simpa using hlt)
      rw [Array.getD_eq_getD_getElem?] at h3 h4
      rw [Array.getElem?_eq_getElem (by omega)] at h3 h4
      simp at h3 h4
      rw [h4] at h3; simp at h3
  intro fuel
  cases fuel with
  | zero => exact ⟨hr, hQ⟩
  | succ n => exact ⟨fun _ => hQ, fun i hi => by rw [hr] at hi; simp at hi⟩
theorem region_call {E : Env} {n0 : Nat} (hm : E.P.follows .mixedOrders = true) (ho : CallsOk E.P (oOf E)) {id : Nat} {e : Nat} {u : Option FrameMode} {h : Hp} {K : KO} (hs : sCallE E ops fr h e fun x h' => ∀ tm : Tr Value, K (x, ⟨tm, fr.nt, fr.df⟩, u, h')) :
    OkM E n0 false (.region id ops true) fr u h K := by
  intro B μ0 F0 w0 cs0 kd μ a cs w tm hB hG hsub hsr
  unfold sCallE at hs
  obtain ⟨h0, hs⟩ := need_spec hs
  simp only [Bool.and_eq_true] at h0
  obtain ⟨⟨hback, honce⟩, hdst⟩ := h0
  rw [msK_eq] at hs
  obtain ⟨hmk, hs⟩ := need_spec hs
  rw [List.all_eq_true] at hmk
  obtain ⟨ws, hk, hlen, hq⟩ := qS_sound hsub _ 0 [] rfl hs
  simp only [List.nil_append, Nat.zero_add] at hk hq
  split at hk
  rotate_left
  · exact hk.elim
  rename_i oe hoe
  split at hk
  rotate_left
  · exact hk.elim
  rename_i c hge hop
  split at hk
  rotate_left
  · exact hk.elim
  rename_i f hcal
  split at hk
  rotate_left
  · exact hk.elim
  rename_i fid x y z hac
  split at hk
  rotate_left
  · exact hk.elim
  rename_i p v h' hT
  obtain ⟨hp, hk⟩ := hk
  have hk := sEnd_eq v _ hk
  have hac' := aCall_mono (skV_le hsub _ _) hac
  have hok : okFn E.P fid = true := by
    unfold aCall at hac'
    split at hac'
    · rename_i fid' first cap l _ _
      cases hk0 : okFn E.P fid' with
      | false => simp [hk0] at hac'
      | true => simp [hk0] at hac'; rw [← hac'.1]; exact hk0
    · simp at hac'
  have hpe : evE E.P (dV ops.toList (masks ops.toList) tm (ws.take e) e) h oe = some (.enter fid (x ++ y ++ z), h) := by
    unfold evE
    rw [hop]
    simp only [hcal, hac']
  have hoo : oOf E fid (x ++ y ++ z) h = some (endV v, h') := by
    unfold oOf
    rw [hT]
    simp only [hp, if_true]
  refine wi_of_wp (wp_region_any hm (mid_any (P := E.P) (fr := fr) (vs := ws) (tm := tm) hback honce hdst hoe hge hq (a0 := a) (hsr.wr.drew (w.drawn + 1)) ?_ ops.size (Array.replicate ops.size false) a (by simp) ?_ ?_ ?_ hsr.ar.size ?_ rfl))
  · intro D a' fuel listed hD hr q1 q2 q3 hsz hld hle
    obtain ⟨μ', w', l1, wr1, kp1, args', hr2, hargs⟩ := evE_sound (hsr.wr.drew (w.drawn + 1)) (dV2 hD hr q2) hpe
    unfold Oper.wp
    rw [hr2]
    obtain ⟨tm', ht⟩ := tm2 tm ops fr.nt hdst honce ws D _ (Nat.le_refl _)
    have hget : ∀ μ3, Le μ μ3 → ∀ x, VR μ3 ((tm'.find x).getD undef) (a'.tmps.getD x undef) := by
      intro μ3 hl x
      rw [ht]
      have := (q2 x).le hl
      unfold sl2 at this ⊢
      cases hw : wrOf ops.toList 0 x with
      | none => rw [hw] at this; exact this
      | some j =>
        rw [hw] at this
        obtain ⟨_, oj, hoj, hdj⟩ := wrOf_spec _ _ _ _ hw
        have hjl := (List.getElem?_eq_some_iff.1 hoj).1
        simp only [Nat.sub_zero] at hjl
        simp only at this ⊢
        have e2 : (D j && decide (j < ops.toList.length)) = D j := by simp; intro _; simpa using hjl
        simp only [e2]; exact this
    refine (ho _ fid (x ++ y ++ z) h _ h' μ' w' args' hoo wr1 hargs hok).mono ?_
    rintro r w2 ⟨μ2, l2, wr2, kp2, hv⟩
    have kpA := hsr.kp.trans ((Keep.drew _ _ _ _).trans (kp1.trans kp2))
    have lA := l1.trans l2
    generalize endV v = ev at hv hk
    cases r with
    | outgrown => cases ev <;> exact hv.elim
    | panicked c' =>
      cases ev with
      | ret => exact hv.elim
      | pan ch =>
        exact ⟨(.panic ch, ⟨tm', fr.nt, fr.df⟩, u, h'), ⟨tm', Sub.refl _, hk tm'⟩, μ2, ⟨⟨q1, hget μ2 lA, by rw [q3]; exact hsr.ar.dlen, fun i d d' g1 g2 => by rw [q3] at g2; exact (hsr.ar.dget i d d' g1 g2).le lA⟩, wr2, kpA, hsr.le.trans lA, hsr.cr.le lA, hsr.kdef⟩, hv, hsr.kdef⟩
    | returned v' =>
      cases ev with
      | pan => exact hv.elim
      | ret v1 =>
        refine wpAny_done hsz (fun i hi => ?_) ?_ fuel
        · by_cases hie : i = e
          · subst hie; exact hle
          · have := hmk i (by simpa using hi)
            rw [Bool.or_eq_true] at this
            rcases this with h8 | h8
            · exact absurd (Nat.eq_of_beq_eq_true h8) hie
            · exact hld i (ready_mask hD hr h8)
        · cases hd : oe.dst with
          | none =>
            exact ⟨(.normal, ⟨tm', fr.nt, fr.df⟩, u, h'), ⟨tm', Sub.refl _, hk tm'⟩, μ2, ⟨⟨q1, hget μ2 lA, by show _ = a'.defers.length; rw [q3]; exact hsr.ar.dlen, fun i d d' g1 g2 => (hsr.ar.dget i d d' g1 (by rw [← q3]; exact g2)).le lA⟩, wr2, kpA, hsr.le.trans lA, hsr.cr.le lA, hsr.kdef⟩, trivial, hsr.kdef⟩
          | some d =>
            have hd1 : d < fr.nt ∧ d < Tr.top := by
              unfold dOk at hdst
              rw [List.all_eq_true] at hdst
              have := hdst oe (List.mem_of_getElem? hoe)
              rw [hd] at this
              simp only [Bool.and_eq_true] at this
              exact ⟨Nat.le_of_ble_eq_true this.1, Nat.le_of_ble_eq_true this.2⟩
            refine ⟨(.normal, ⟨tm'.put d (some v1), fr.nt, fr.df⟩, u, h'), ⟨_, Sub.refl _, hk _⟩, μ2, ⟨⟨by simp [Act.put, q1], fun x => ?_, by show _ = a'.defers.length; rw [q3]; exact hsr.ar.dlen, fun i d d' g1 g2 => (hsr.ar.dget i d d' g1 (by rw [← q3]; exact g2)).le lA⟩, wr2, kpA, hsr.le.trans lA, hsr.cr.le lA, hsr.kdef⟩, trivial, hsr.kdef⟩
            rw [Tr.find_put _ _ _ _ hd1.2]
            by_cases hx : x = d
            · subst hx
              rw [if_pos rfl]
              have : ((a'.put (some x) v').tmps.getD x undef) = v' := by simp [Act.put, Array.getD_eq_getD_getElem?, q1, hd1.1]
              rw [this]; exact hv
            · rw [if_neg hx]
              have : ((a'.put (some d) v').tmps.getD x undef) = a'.tmps.getD x undef := by
                simp [Act.put, Array.getD_eq_getD_getElem?, Array.getElem?_setIfInBounds_ne (Ne.symm hx)]
              rw [this]; exact hget μ2 lA x
  · have : ∀ n : Nat, left (List.replicate n false) = n := by
      intro n
      induction n with
      | zero => rfl
      | succ n ih => rw [List.replicate_succ]; simp [left, ih]; omega
    simp [this]
  · intro i o e _ hd
    simp only [rep_false] at hd
    simp at hd
  · intro j _; exact rep_false _ j
  · intro x
    have e3 : sl2 ops tm ws (fun i => (Array.replicate ops.size false).getD i false) x = (tm.find x).getD undef := by
      unfold sl2
      split
      · exact if_neg (by show ¬ (Array.replicate ops.size false).getD _ false = true; rw [rep_false]; simp)
      · rfl
    rw [e3]; exact hsr.ar.get x
theorem call_piece {E : Env} {n0 : Nat} (hm : E.P.follows .mixedOrders = true) (ho : CallsOk E.P (oOf E)) {f : FuncId} {p : List Nat} {e : Nat} : PieceOk E n0 (f, p, specCallE E f p e) := by
  intro fn c0 c hf hb hc fr u h K hs
  have hcode : codeOf E.P f p = c := codeOf_eq hf hb hc
  simp only [specCallE] at hs
  rw [hcode] at hs
  split at hs
  · exact region_call hm ho hs
  · exact hs.elim
theorem mid_piece {E : Env} {n0 : Nat} (hm : E.P.follows .mixedOrders = true) {f : FuncId} {p : List Nat} {e : Nat} : PieceOk E n0 (f, p, specMid E f p e) := by
  intro fn c0 c hf hb hc fr u h K hs
  have hcode : codeOf E.P f p = c := codeOf_eq hf hb hc
  simp only [specMid] at hs
  rw [hcode] at hs
  split at hs
  · exact region_mid hm hs
  · exact hs.elim
end
end Go.Proofs.Ytekijelmdajhlaa.gm
