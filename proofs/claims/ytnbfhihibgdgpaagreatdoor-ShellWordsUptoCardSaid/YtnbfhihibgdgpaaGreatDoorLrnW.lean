/- A region of open order with two known calls, the second of which panics; what stands beside them looks at no memory. -/
import Derived.Test.YtnbfhihibgdgpaaGreatDoorSz9
import Derived.Test.YtnbfhihibgdgpaaGreatDoorRows
import Derived.Test.YtnbfhihibgdgpaaGreatDoorLrnM
set_option maxRecDepth 20000
set_option linter.unusedSimpArgs false
set_option linter.unusedVariables false
namespace Go.Proofs.YtnbfhihibgdgpaaGreatDoor.gm
open Go Go.Ev Go.Sy Go.RowKit
def callAt (E : Env) (l : List Oper) (ms : List Nat) (ov : Tr Value) (i : Nat) (o : Oper) (vs : List Value) (h : Hp) (k : Ev.End × Hp → Prop) : Prop :=
  match o.guard, o.op with
  | none, .call c =>
    match c.callee with
    | .value f =>
      match aCall E.P (skV l ms ov vs i) f c.args.toList with
      | some (fid, a, b, d) => callK E fid (a ++ b ++ d) h k
      | none => False
    | _ => False
  | _, _ => False
def qT (E : Env) (l : List Oper) (ms : List Nat) (ov : Tr Value) (e1 e : Nat) : List Oper → Nat → List Value → Hp → (List Value → Hp → Prop) → Prop
  | [], _, vs, h, k => k vs h
  | o :: r, i, vs, h, k =>
    bif Nat.beq i e || Nat.testBit (mk ms i) e then apK vs [undef] fun vs => qT E l ms ov e1 e r (i + 1) vs h k
    else bif Nat.beq i e1 then callAt E l ms ov i o vs h fun x => match x with
      | (.ret v, h1) => nv E v fun v => apK vs [v] fun vs => qT E l ms ov e1 e r (i + 1) vs h1 k
      | _ => False
    else need (qOp o) (sQ E (skV l ms ov vs i) .leaf o fun v => nv E v fun v => apK vs [v] fun vs => qT E l ms ov e1 e r (i + 1) vs h k)
def sTwo (E : Env) (ops : Array Oper) (fr : Fr) (h : Hp) (e1 e : Nat) (k : Ex → Hp → Prop) : Prop :=
  need (edgesBack ops.toList 0 && dstsOnce ops.toList ops.toList 0 && dOk ops.toList fr.nt) <|
    msK (masks ops.toList) fun ms =>
    need (Nat.testBit (mk ms e) e1 && (!Nat.testBit (mk ms e1) e && !Nat.beq e1 e)) <|
    qT E ops.toList ms fr.tm e1 e ops.toList 0 [] h fun vs h1 =>
      match ops.toList[e]? with
      | some o => callAt E ops.toList ms fr.tm e o (vs.take e) h1 fun x => match x with
        | (.pan ch, h2) => k (.panic ch) h2
        | _ => False
      | none => False
def specTwo (E : Env) (f : FuncId) (p : List Nat) (e1 e : Nat) : Sy.Spec := fun fr u h K =>
  match codeOf E.P f p with
  | .region _ ops true => sTwo E ops fr h e1 e fun x h' => ∀ tm : Tr Value, K (x, ⟨tm, fr.nt, fr.df⟩, u, h')
  | _ => False
def CallIs (E : Env) (l : List Oper) (tm : Tr Value) (ms : List Nat) (i : Nat) (o : Oper) (vs : List Value) (h : Hp) (x : Ev.End × Hp) : Prop :=
  o.guard = none ∧ ∃ fid args, evE E.P (dV l ms tm vs i) h o = some (.enter fid args, h) ∧ okFn E.P fid = true ∧ oOf E fid args h = some x
theorem callAt_sound {E : Env} {l : List Oper} {ms : List Nat} {ov tm : Tr Value} (hs : Sub ov tm) {i : Nat} {o : Oper} {vs : List Value} {h : Hp} {k : Ev.End × Hp → Prop} (hk : callAt E l ms ov i o vs h k) : ∃ x, CallIs E l tm ms i o vs h x ∧ k x := by
  unfold callAt at hk
  split at hk
  · rename_i c hge hop
    split at hk
    · rename_i f hcal
      split at hk
      · rename_i fid x y z hac
        obtain ⟨r, hr, hk⟩ := callK_sound hk
        have hac' := aCall_mono (skV_le hs _ _) hac
        refine ⟨r, ⟨hge, fid, x ++ y ++ z, ?_, ?_, hr⟩, hk⟩
        · unfold evE
          rw [hop]
          simp only [hcal, hac']
        · unfold aCall at hac'
          split at hac'
          · rename_i fid' first cap l' _ _
            cases hk0 : okFn E.P fid' with
            | false => simp [hk0] at hac'
            | true => simp [hk0] at hac'; rw [← hac'.1]; exact hk0
          · simp at hac'
      · exact hk.elim
    · exact hk.elim
  · exact hk.elim
theorem qT_sound {E : Env} {l : List Oper} {ms : List Nat} {ov tm : Tr Value} (hs : Sub ov tm) {e1 e : Nat} {k : List Value → Hp → Prop} : ∀ (r : List Oper) (i : Nat) (vs : List Value) (h : Hp), vs.length = i → qT E l ms ov e1 e r i vs h k →
    ∃ ws h1, k (vs ++ ws) h1 ∧ ws.length = r.length ∧ (e1 < i → h1 = h) ∧ ∀ (j : Nat) o, r[j]? = some o → ((i + j = e ∨ (mk ms (i + j)).testBit e = true) ∨
      (i + j = e1 ∧ ∃ v, (vs ++ ws)[i + j]? = some v ∧ CallIs E l tm ms (i + j) o ((vs ++ ws).take (i + j)) h (.ret v, h1)) ∨ (i + j ≠ e1 ∧ o.guard = none ∧ ∃ v, (vs ++ ws)[i + j]? = some v ∧ evQ E.P (dV l ms tm ((vs ++ ws).take (i + j)) (i + j)) .leaf o = some v))
  | [], i, vs, h, _, hk => ⟨[], h, by simpa [qT] using hk, rfl, fun _ => rfl, fun j o hj => by simp at hj⟩
  | o :: r, i, vs, h, hl, hk => by
    simp only [qT] at hk
    have step : ∀ (v : Value) (hh : Hp), qT E l ms ov e1 e r (i + 1) (vs ++ [v]) hh k → ((hh = h ∧ ((i = e ∨ (mk ms i).testBit e = true) ∨ (i ≠ e1 ∧ o.guard = none ∧ evQ E.P (dV l ms tm vs i) .leaf o = some v))) ∨ (i = e1 ∧ CallIs E l tm ms i o vs h (.ret v, hh))) →
        ∃ ws h1, k (vs ++ ws) h1 ∧ ws.length = (o :: r).length ∧ (e1 < i → h1 = h) ∧ ∀ (j : Nat) o', (o :: r)[j]? = some o' → ((i + j = e ∨ (mk ms (i + j)).testBit e = true) ∨
          (i + j = e1 ∧ ∃ v, (vs ++ ws)[i + j]? = some v ∧ CallIs E l tm ms (i + j) o' ((vs ++ ws).take (i + j)) h (.ret v, h1)) ∨ (i + j ≠ e1 ∧ o'.guard = none ∧ ∃ v, (vs ++ ws)[i + j]? = some v ∧ evQ E.P (dV l ms tm ((vs ++ ws).take (i + j)) (i + j)) .leaf o' = some v)) := by
      intro v hh hk h0
      obtain ⟨ws, h1, q1, q2, q4, q3⟩ := qT_sound hs r (i + 1) (vs ++ [v]) hh (by simp [hl]) hk
      refine ⟨v :: ws, h1, by simpa using q1, by simp [q2], fun hlt => ?_, fun j o' hj => ?_⟩
      · rcases h0 with ⟨h0, _⟩ | ⟨h0, _⟩
        · rw [q4 (by omega), h0]
        · omega
      cases j with
      | zero =>
        simp only [List.getElem?_cons_zero, Option.some.injEq] at hj
        subst hj
        simp only [Nat.add_zero]
        have eT : (vs ++ v :: ws).take i = vs := by rw [← hl]; exact List.take_left' rfl
        have eG : (vs ++ v :: ws)[i]? = some v := by rw [← hl]; simp
        rcases h0 with ⟨_, h0 | ⟨h0', h0, h2⟩⟩ | ⟨h0, h2⟩
        · exact .inl h0
        · exact .inr (.inr ⟨h0', h0, v, eG, by rw [eT]; exact h2⟩)
        · refine .inr (.inl ⟨h0, v, eG, ?_⟩)
          rw [eT, q4 (by omega)]; exact h2
      | succ j =>
        simp only [List.getElem?_cons_succ] at hj
        have := q3 j o' hj
        simp only [List.append_assoc, List.singleton_append, show i + 1 + j = i + (j + 1) by omega] at this
        rcases this with h2 | ⟨h2, v2, h3, h4⟩ | h2
        · exact .inl h2
        · rcases h0 with ⟨h0, _⟩ | ⟨h0, _⟩
          · rw [h0] at h4; exact .inr (.inl ⟨h2, v2, h3, h4⟩)
          · omega
        · exact .inr (.inr h2)
    cases hb : (Nat.beq i e || Nat.testBit (mk ms i) e) with
    | true =>
      rw [hb] at hk
      simp only [cond_true, apK_eq] at hk
      rw [Bool.or_eq_true] at hb
      refine step undef h hk (.inl ⟨rfl, .inl ?_⟩)
      rcases hb with hb | hb
      · exact .inl (Nat.eq_of_beq_eq_true hb)
      · exact .inr hb
    | false =>
      rw [hb] at hk
      simp only [cond_false] at hk
      cases hb1 : Nat.beq i e1 with
      | true =>
        rw [hb1] at hk
        simp only [cond_true] at hk
        obtain ⟨x, hx, hk⟩ := callAt_sound hs hk
        obtain ⟨en, h1⟩ := x
        cases en with
        | pan => exact hk.elim
        | ret v =>
          simp only [nv_eq, apK_eq] at hk
          exact step v h1 hk (.inr ⟨Nat.eq_of_beq_eq_true hb1, hx⟩)
      | false =>
        rw [hb1] at hk
        simp only [cond_false] at hk
        obtain ⟨h1, h2⟩ := need_spec hk
        obtain ⟨v, h3, h4⟩ := sQ_sound E (skV_le hs vs i) h2
        rw [nv_eq, apK_eq] at h4
        exact step v h h4 (.inl ⟨rfl, .inr ⟨fun e0 => by rw [e0] at hb1; simp at hb1, (wants_none h1).1, h3⟩⟩)
section
variable {P : Program} {B : Base} {ops : Array Oper} {fr : Fr} {vs : List Value}
theorem two_any (hback : edgesBack ops.toList 0 = true) (honce : dstsOnce ops.toList ops.toList 0 = true) (hdst : dOk ops.toList fr.nt = true) {tm : Tr Value} {e1 e : Nat} {oe : Oper} (he : ops.toList[e]? = some oe) (hge : oe.guard = none) {S : Bool → Mu → World → Prop} (hS : ∀ b μ w, S b μ w → WR B μ (Tr.leaf : Tr Row).find 0 w ∨ ∃ n, WR B μ (Tr.leaf : Tr Row).find n w)
    (hq : ∀ (j : Nat) o, ops.toList[j]? = some o → (j = e ∨ (mk (masks ops.toList) j).testBit e = true) ∨ (j = e1 ∧ o.guard = none ∧ ∃ v, vs[j]? = some v ∧ ∀ (D : Nat → Bool) (a' : Act) (μ : Mu) (w : World) (Q1 : Act → World → Prop) (Q2 : Exit → Act → World → Prop), Down ops D → Ready ops D j o → a'.tmps.size = fr.nt → (∀ x, VR μ (sl2 ops tm vs D x) (a'.tmps.getD x undef)) → S false μ w → (∀ μ' w' v', Le μ μ' → S true μ' w' → VR μ' v v' → Q1 (a'.put o.dst v') w') → o.wp P a' w Q1 Q2) ∨ (j ≠ e1 ∧ o.guard = none ∧ ∃ v, vs[j]? = some v ∧ evQ P (dV ops.toList (masks ops.toList) tm (vs.take j) j) .leaf o = some v))
    (hne : e1 ≠ e) (hnw : (mk (masks ops.toList) e1).testBit e = false) {a0 : Act} {Q : Exit → Act → World → Prop}
    (hE : ∀ (D : Nat → Bool) a' (fuel : Nat) (listed : Array Bool) (μ : Mu) (w : World), S (D e1) μ w → Down ops D → Ready ops D e oe → a'.tmps.size = fr.nt → (∀ x, VR μ (sl2 ops tm vs D x) (a'.tmps.getD x undef)) → a'.defers = a0.defers → listed.size = ops.size → (∀ j, D j = true → listed.getD j false = true) → listed.getD e false = true → oe.wp P a' w (wpAny P .any ops Q fuel listed) Q) :
    ∀ (fuel : Nat) (listed : Array Bool) (a : Act) (μ : Mu) (w : World), S (listed.getD e1 false) μ w → listed.size = ops.size → left listed.toList ≤ fuel → Down ops (fun i => listed.getD i false) → (∀ j, (j = e ∨ (mk (masks ops.toList) j).testBit e = true) → listed.getD j false = false) →
      a.tmps.size = fr.nt → (∀ x, VR μ (sl2 ops tm vs (fun i => listed.getD i false) x) (a.tmps.getD x undef)) → a.defers = a0.defers → wpAny P .any ops Q fuel listed a w := by
  have hel : e < ops.toList.length := (List.getElem?_eq_some_iff.1 he).1
  have full : ∀ (listed : Array Bool), listed.size = ops.size → left listed.toList = 0 → ∀ i, i < ops.toList.length → listed.getD i false = true := by
    intro listed hsz h0 i hi
    have := left_zero _ h0 i (by simp at hi ⊢; omega)
    rw [Array.getD_eq_getD_getElem?]
    have h2 : listed[i]? = some true := by simpa using this
    rw [h2]; rfl
  have readyIff : ∀ (listed : Array Bool) i, listed.size = ops.size → i ∈ Region.ready .any ops listed → ∃ o, Ready ops (fun i => listed.getD i false) i o := by
    intro listed i hsz hi
    unfold Region.ready at hi
    rw [List.mem_filter] at hi
    obtain ⟨h1, h2⟩ := hi
    have hlt : i < ops.size := by simpa using h1
    obtain ⟨o, ho⟩ : ∃ o, ops[i]? = some o := ⟨ops[i], Array.getElem?_eq_getElem hlt⟩
    rw [ho] at h2
    simp only [Option.map_some, Option.getD_some, Bool.and_eq_true, Bool.not_eq_true'] at h2
    refine ⟨o, by simpa using ho, by simpa using hlt, ?_, fun e he hb => ?_⟩
    · have := h2.1
      rw [Array.getD_eq_getD_getElem?] at this ⊢
      rw [Array.getElem?_eq_getElem (by omega)] at this ⊢
      simpa using this
    · have h3 := h2.2
      rw [← Array.all_toList, List.all_eq_true] at h3
      have := h3 e he
      simp only [hb, Bool.not_true, Bool.false_or] at this
      exact this
  have notStuck : ∀ (listed : Array Bool), listed.size = ops.size → Region.ready .any ops listed = [] → ∀ i, i < ops.toList.length → listed.getD i false = true := by
    intro listed hsz hr i
    induction i using Nat.strongRecOn with
    | _ i ih =>
      intro hi
      cases hd : listed.getD i false with
      | true => rfl
      | false =>
        have hlt : i < ops.size := by simpa using hi
        obtain ⟨o, ho⟩ : ∃ o, ops[i]? = some o := ⟨ops[i], Array.getElem?_eq_getElem hlt⟩
        have hol : ops.toList[i]? = some o := by simpa using ho
        have : i ∈ Region.ready .any ops listed := by
          unfold Region.ready
          rw [List.mem_filter]
          refine ⟨by simpa using hlt, ?_⟩
          rw [ho]
          simp only [Option.map_some, Option.getD_some, Bool.and_eq_true, Bool.not_eq_true']
          refine ⟨?_, ?_⟩
          · rw [Array.getD_eq_getD_getElem?] at hd ⊢
            rw [Array.getElem?_eq_getElem (by omega)] at hd ⊢
            simpa using hd
          · rw [← Array.all_toList, List.all_eq_true]
            intro e he
            cases hb : Region.binds .any e with
            | false => simp
            | true =>
              have := edgesBack_spec _ 0 hback i o hol e he hb
              simp only [Bool.not_true, Bool.false_or]
              exact ih e.on (by omega) (by omega)
        rw [hr] at this; simp at this
  intro fuel
  induction fuel with
  | zero =>
    intro listed a μ w hSt hsz hl hD hA
    have := full listed hsz (by omega) e hel
    rw [hA e (.inl rfl)] at this; simp at this
  | succ fuel ih =>
    intro listed a μ w hSt hsz hl hD hA hs1 hs2 hs3
    refine ⟨fun hr => by have := notStuck listed hsz hr e hel; rw [hA e (.inl rfl)] at this; simp at this, fun i hi => ?_⟩
    obtain ⟨o, hr⟩ := readyIff listed i hsz hi
    have hoi : ops[i]? = some o := by have := hr.op; simpa using this
    have hlt : i < ops.size := by have := hr.lt; simpa using this
    have hnew : listed.toList[i]? = some false := by
      have : listed.getD i false = false := hr.new
      rw [Array.getD_eq_getD_getElem?, Array.getElem?_eq_getElem (by omega)] at this
      simp only [Option.getD_some] at this
      rw [Array.getElem?_toList, Array.getElem?_eq_getElem (by omega), this]
    have hset : (fun j => (listed.setIfInBounds i true).getD j false) = add (fun j => listed.getD j false) i := by
      funext j
      show (listed.setIfInBounds i true).getD j false = (listed.getD j false || decide (j = i))
      rw [Array.getD_eq_getD_getElem?, Array.getD_eq_getD_getElem?]
      by_cases hji : j = i
      · subst hji
        rw [Array.getElem?_setIfInBounds_self_of_lt (by omega)]; simp
      · rw [Array.getElem?_setIfInBounds_ne (Ne.symm hji)]; simp [hji]
    unfold wpOp
    rw [hoi]
    simp only
    by_cases hie : i = e
    · subst hie
      have : o = oe := by have := hr.op; rw [he] at this; simpa using this.symm
      subst this
      have hwt : Region.wanted o (yielded ops a.tmps) = true := by unfold Region.wanted; rw [hge]
      rw [hwt]
      simp only [if_true]
      left
      refine hE _ a fuel _ μ w hSt hD hr hs1 hs2 hs3 (by simp [hsz]) (fun j hj => ?_) ?_
      · have := congrFun hset j
        have hj2 : listed.getD j false = true := hj
        rw [this]; show (listed.getD j false || decide (j = i)) = true; rw [hj2]; rfl
      · have := congrFun hset i
        rw [this]; simp [add]
    have hni : i ≠ e ∧ ((mk (masks ops.toList) i).testBit e = true → False) := ⟨hie, fun hb => by
      have := ready_mask hD hr hb; have h0 : listed.getD e false = false := hA e (.inl rfl); rw [h0] at this; simp at this⟩
    have next : ∀ (v v' : Value) (μ' : Mu) (w' : World), vs[i]? = some v → Le μ μ' → VR μ' v v' → S ((listed.setIfInBounds i true).getD e1 false) μ' w' → wpAny P .any ops Q fuel (listed.setIfInBounds i true) (a.put o.dst v') w' := by
      intro v v' μ' w' hv hl2 h2 hS2
      obtain ⟨q1, q2⟩ := put2 honce hdst hr hs1 (fun x => (hs2 x).le hl2) hv h2
      refine ih _ _ μ' w' hS2 (by simp [hsz]) ?_ ?_ ?_ q1 ?_ ?_
      · have := left_set _ i hnew
        rw [Array.toList_setIfInBounds]; omega
      · rw [hset]; exact add_down hD hr
      · intro j hj
        have := congrFun hset j
        rw [this]
        have hji : j ≠ i := by
          rintro rfl
          rcases hj with hj | hj
          · exact hni.1 hj
          · exact hni.2 hj
        simp [add, hA j hj, hji]
      · rw [hset]; exact q2
      · rw [← hs3]; cases o.dst <;> rfl
    rcases hq i o hr.op with (h0 | hm) | ⟨hi1, hg, v, hv, hcall⟩ | ⟨hi1, hg, v, hv, hev⟩
    · exact absurd h0 hie
    · exact absurd hm hni.2
    · have hwt : Region.wanted o (yielded ops a.tmps) = true := by unfold Region.wanted; rw [hg]
      rw [hwt]
      simp only [if_true]
      left
      subst hi1
      have hSt0 : S false μ w := by
        have h0 : listed.getD i false = false := hr.new
        rwa [h0] at hSt
      refine hcall _ a μ w _ _ hD hr hs1 hs2 hSt0 fun μ' w' v' hl2 hS2 hv2 => next v v' μ' w' hv hl2 hv2 ?_
      have := congrFun hset i
      rw [this]
      simp only [add, decide_true, Bool.or_true]
      exact hS2
    · have hwt : Region.wanted o (yielded ops a.tmps) = true := by unfold Region.wanted; rw [hg]
      rw [hwt]
      simp only [if_true]
      left
      have hw : ∃ n, WR B μ (Tr.leaf : Tr Row).find n w := by
        rcases hS _ _ _ hSt with h1 | h1
        · exact ⟨0, h1⟩
        · exact h1
      obtain ⟨n, hw⟩ := hw
      obtain ⟨v', h1, h2⟩ := evQ_sound (P := P) (w := w) hw (dV2 hD hr hs2) hev
      unfold Oper.wp
      rw [h1, Oper.upon_value]
      refine next v v' μ w hv (Le.refl _) h2 ?_
      have := congrFun hset e1
      rw [this]
      have : decide (e1 = i) = false := decide_eq_false (Ne.symm hi1)
      simp only [add, this, Bool.or_false]
      exact hSt
theorem region_two {E : Env} {n0 : Nat} (hm : E.P.follows .mixedOrders = true) (ho : CallsOk E.P (oOf E)) {id : Nat} {e1 e : Nat} {u : Option FrameMode} {h : Hp} {K : KO} (hs : sTwo E ops fr h e1 e fun x h' => ∀ tm : Tr Value, K (x, ⟨tm, fr.nt, fr.df⟩, u, h')) :
    OkM E n0 false (.region id ops true) fr u h K := by
  intro B μ0 F0 w0 cs0 kd μ a cs w tm hB hG hsub hsr
  unfold sTwo at hs
  obtain ⟨h0, hs⟩ := need_spec hs
  simp only [Bool.and_eq_true] at h0
  obtain ⟨⟨hback, honce⟩, hdst⟩ := h0
  rw [msK_eq] at hs
  obtain ⟨hmk, hs⟩ := need_spec hs
  obtain ⟨ws, h1, hk, hlen, _, hq⟩ := qT_sound hsub _ 0 [] h rfl hs
  simp only [List.nil_append, Nat.zero_add] at hk hq
  split at hk
  rotate_left
  · exact hk.elim
  rename_i oe hoe
  obtain ⟨x, hx, hk⟩ := callAt_sound hsub hk
  obtain ⟨en, h2⟩ := x
  cases en with
  | ret => exact hk.elim
  | pan ch =>
  simp only at hk
  obtain ⟨hge, fid, args, hpe, hok, hoo⟩ := hx
  let wD : World := { w with drawn := w.drawn + 1 }
  let S : Bool → Mu → World → Prop := fun b μ' w' => Le μ μ' ∧ (b = false → WR B μ' h.rows.find h.next w' ∧ Keep μ h.rows.find wD μ' h.rows.find w') ∧ (b = true → WR B μ' h1.rows.find h1.next w' ∧ Keep μ h.rows.find wD μ' h1.rows.find w')
  have leaf : ∀ r row, (Tr.leaf : Tr Row).find r = some row → False := fun r row hr => by rw [Tr.find_leaf] at hr; simp at hr
  have hS : ∀ b μ' w', S b μ' w' → WR B μ' (Tr.leaf : Tr Row).find 0 w' ∨ ∃ n, WR B μ' (Tr.leaf : Tr Row).find n w' := by
    intro b μ' w' hst
    cases b with
    | false => exact .inr ⟨_, (hst.2.1 rfl).1.sub fun r row hr => (leaf r row hr).elim⟩
    | true => exact .inr ⟨_, (hst.2.2 rfl).1.sub fun r row hr => (leaf r row hr).elim⟩
  have hel : e < ops.toList.length := (List.getElem?_eq_some_iff.1 hoe).1
  simp only [Bool.and_eq_true, Bool.not_eq_true'] at hmk
  obtain ⟨hmk, hnw, hne0⟩ := hmk
  have hne : e1 ≠ e := by rintro rfl; simp at hne0
  refine wi_of_wp (wp_region_any hm (two_any (P := E.P) (fr := fr) (vs := ws) (tm := tm) (S := S) (e1 := e1) hback honce hdst hoe hge hS ?_ hne hnw (a0 := a) ?_ ops.size (Array.replicate ops.size false) a μ wD ?_ (by simp) ?_ ?_ ?_ hsr.ar.size ?_ rfl))
  · intro j o hj
    rcases hq j o hj with h3 | ⟨h3, v, hv, hci⟩ | h3
    · exact .inl h3
    · obtain ⟨hg, fid1, args1, hpe1, hok1, hoo1⟩ := hci
      refine .inr (.inl ⟨h3, hg, v, hv, ?_⟩)
      intro D a' μ2 w2 Q1 Q2 hD hr q1 q2 hst hnext
      obtain ⟨hle, hf, _⟩ := hst
      obtain ⟨wr2, kp2⟩ := hf rfl
      obtain ⟨μ', w', l1, wr1, kp1, args', hr2, hargs⟩ := evE_sound wr2 (dV2 hD hr q2) hpe1
      unfold Oper.wp
      rw [hr2]
      refine (ho _ fid1 args1 h _ h1 μ' w' args' hoo1 wr1 hargs hok1).mono ?_
      rintro r w3 ⟨μ3, l3, wr3, kp3, hv3⟩
      cases r with
      | outgrown => exact hv3.elim
      | panicked c' => exact hv3.elim
      | returned v' => exact hnext μ3 w3 v' (l1.trans l3) ⟨hle.trans (l1.trans l3), fun hb => by simp at hb, fun _ => ⟨wr3, kp2.trans (kp1.trans kp3)⟩⟩ hv3
    · exact .inr (.inr h3)
  · intro D a' fuel listed μ2 w2 hst hD hr q1 q2 q3 hsz hld hle0
    have hD1 : D e1 = true := ready_mask hD hr hmk
    rw [hD1] at hst
    obtain ⟨hle, _, hf⟩ := hst
    obtain ⟨wr2, kp2⟩ := hf rfl
    obtain ⟨μ', w', l1, wr1, kp1, args', hr2, hargs⟩ := evE_sound wr2 (dV2 hD hr q2) hpe
    unfold Oper.wp
    rw [hr2]
    obtain ⟨tm', ht⟩ := tm2 tm ops fr.nt hdst honce ws D _ (Nat.le_refl _)
    have hget : ∀ μ3, Le μ2 μ3 → ∀ x, VR μ3 ((tm'.find x).getD undef) (a'.tmps.getD x undef) := by
      intro μ3 hl x
      rw [ht]
      have := (q2 x).le hl
      unfold sl2 at this ⊢
      cases hw : wrOf ops.toList 0 x with
      | none => rw [hw] at this; exact this
      | some j =>
        rw [hw] at this
        obtain ⟨_, oj, hoj, hdj⟩ := wrOf_spec _ _ _ _ hw
        have hjl := (List.getElem?_eq_some_iff.1 hoj).1
        simp only [Nat.sub_zero] at hjl
        simp only at this ⊢
        have e2 : (D j && decide (j < ops.toList.length)) = D j := by simp; intro _; simpa using hjl
        simp only [e2]; exact this
    refine (ho _ fid args h1 _ h2 μ' w' args' hoo wr1 hargs hok).mono ?_
    rintro r w3 ⟨μ3, l3, wr3, kp3, hv⟩
    have kpA := hsr.kp.trans ((Keep.drew _ _ _ _).trans (kp2.trans (kp1.trans kp3)))
    have lA := hle.trans (l1.trans l3)
    cases r with
    | outgrown => exact hv.elim
    | returned v' => exact hv.elim
    | panicked c' =>
      exact ⟨(.panic ch, ⟨tm', fr.nt, fr.df⟩, u, h2), ⟨tm', Sub.refl _, hk tm'⟩, μ3, ⟨⟨q1, hget μ3 (l1.trans l3), by rw [q3]; exact hsr.ar.dlen, fun i d d' g1 g2 => by rw [q3] at g2; exact (hsr.ar.dget i d d' g1 g2).le lA⟩, wr3, kpA, hsr.le.trans lA, hsr.cr.le lA, hsr.kdef⟩, hv, hsr.kdef⟩
  · rw [show (Array.replicate ops.size false).getD e1 false = false from rep_false _ e1]
    exact ⟨Le.refl _, fun _ => ⟨hsr.wr.drew _, Keep.refl _ _ _⟩, fun hb => by simp at hb⟩
  · have : ∀ n : Nat, left (List.replicate n false) = n := by
      intro n
      induction n with
      | zero => rfl
      | succ n ih => rw [List.replicate_succ]; simp [left, ih]; omega
    simp [this]
  · intro i o e _ hd
    simp only [rep_false] at hd
    simp at hd
  · intro j _; exact rep_false _ j
  · intro x
    have e3 : sl2 ops tm ws (fun i => (Array.replicate ops.size false).getD i false) x = (tm.find x).getD undef := by
      unfold sl2
      split
      · exact if_neg (by show ¬ (Array.replicate ops.size false).getD _ false = true; rw [rep_false]; simp)
      · rfl
    rw [e3]; exact hsr.ar.get x
theorem two_piece {E : Env} {n0 : Nat} (hm : E.P.follows .mixedOrders = true) (ho : CallsOk E.P (oOf E)) {f : FuncId} {p : List Nat} {e1 e : Nat} : PieceOk E n0 (f, p, specTwo E f p e1 e) := by
  intro fn c0 c hf hb hc fr u h K hs
  have hcode : codeOf E.P f p = c := codeOf_eq hf hb hc
  simp only [specTwo] at hs
  rw [hcode] at hs
  split at hs
  · exact region_two hm ho hs
  · exact hs.elim
end
end Go.Proofs.YtnbfhihibgdgpaaGreatDoor.gm
