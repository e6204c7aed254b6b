/- A region of open order in which one operation panics and the others that may come before it only read. -/
import Derived.Test.YtnbfhihibgdgpaaGreatDoorSz9
import Derived.Test.YtnbfhihibgdgpaaGreatDoorRows
import Derived.Test.YtnbfhihibgdgpaaGreatDoorLtok
set_option maxRecDepth 20000
set_option linter.unusedSimpArgs false
set_option linter.unusedVariables false
namespace Go.Proofs.YtnbfhihibgdgpaaGreatDoor.gm
open Go Go.Ev Go.Sy Go.RowKit
def qOp (o : Oper) : Bool := (match o.guard with | none => true | some _ => false) && (match kind o with | .quiet => true | _ => false)
def dOk (l : List Oper) (nt : Nat) : Bool := l.all fun o => match o.dst with | none => true | some d => Nat.blt d nt && Nat.blt d Tr.top
def callK (E : Env) (f : FuncId) (args : List Value) (h : Hp) (k : Ev.End × Hp → Prop) : Prop :=
  match E.O f args h with
  | some x => k x
  | none => match E.T f args h with
    | some (p, v, h') => p ∧ sEnd v fun e => k (e, h')
    | none => False
section
variable {P : Program} {B : Base} {ops : Array Oper} {fr : Fr} {vs : List Value}
noncomputable def sl2 (ops : Array Oper) (tm : Tr Value) (vs : List Value) (D : Nat → Bool) (x : Tmp) : Value :=
  match wrOf ops.toList 0 x with
  | some j => if D j = true then vs.getD j undef else (tm.find x).getD undef
  | none => (tm.find x).getD undef
theorem dV2 {D : Nat → Bool} (hD : Down ops D) {i : Nat} {o : Oper} (hr : Ready ops D i o) {a : Act} {μ : Mu} {tm : Tr Value} (hget : ∀ x, VR μ (sl2 ops tm vs D x) (a.tmps.getD x undef)) :
    ∀ x v, dV ops.toList (masks ops.toList) tm (vs.take i) i x = some v → VR μ v (a.eval x) := by
  intro x v hv
  cases x with
  | tmp t =>
    have hg := hget t
    simp only [Act.eval]
    have init : (match tm.find t with | some v => some v | none => some undef) = some v → (tm.find t).getD undef = v := by
      intro h; cases hfn : tm.find t <;> simp [hfn] at h <;> simp [h]
    unfold sl2 at hg
    simp only [dV] at hv
    cases hw : wrOf ops.toList 0 t with
    | none => rw [hw] at hv hg; rw [init hv] at hg; exact hg
    | some j =>
      rw [hw] at hv hg
      simp only at hv hg
      obtain ⟨_, oj, hoj, _⟩ := wrOf_spec _ _ _ _ hw
      have hjl := (List.getElem?_eq_some_iff.1 hoj).1
      simp only [Nat.sub_zero] at hjl
      cases hb : (mk (masks ops.toList) i).testBit j with
      | true =>
        rw [hb] at hv
        simp only [cond_true] at hv
        rw [if_pos (ready_mask hD hr hb)] at hg
        have hv2 : vs[j]? = some v := by
          rw [List.getElem?_take] at hv
          split at hv
          · exact hv
          · simp at hv
        rw [List.getD_eq_getElem?_getD, hv2] at hg
        exact hg
      | false =>
        rw [hb] at hv
        simp only [cond_false] at hv
        have hDj : ((mk (masks ops.toList) j).testBit i || Nat.beq j i) = true → D j = false := by
          intro h
          simp only [Bool.or_eq_true] at h
          rcases h with h | h
          · exact ready_not hD hr hjl h
          · have := Nat.eq_of_beq_eq_true h; subst this; exact hr.new
        cases hc : (mk (masks ops.toList) j).testBit i || Nat.beq j i with
        | false => rw [hc] at hv; simp at hv
        | true =>
          rw [hc] at hv
          simp only [cond_true] at hv
          rw [if_neg (by rw [hDj hc]; simp), init hv] at hg
          exact hg
  | const c =>
    simp only [dV] at hv
    cases hfl : flat 12 c with
    | false => rw [hfl] at hv; simp at hv
    | true => rw [hfl] at hv; simp at hv; subst hv; exact flat_refl _ _ hfl
  | func f => simp only [dV, Option.some.injEq] at hv; subst hv; exact .func _ _ _ _ _ rfl rfl (fun i h => by simp at h) (fun i h => by simp at h)
  | global g => simp [dV] at hv
theorem put2 (honce : dstsOnce ops.toList ops.toList 0 = true) (hdst : dOk ops.toList fr.nt = true) {D : Nat → Bool} {i : Nat} {o : Oper} (hr : Ready ops D i o) {a : Act} {μ : Mu} (hsize : a.tmps.size = fr.nt) {tm : Tr Value} (hget : ∀ x, VR μ (sl2 ops tm vs D x) (a.tmps.getD x undef))
    {v v' : Value} (hv : vs[i]? = some v) (hvr : VR μ v v') : (a.put o.dst v').tmps.size = fr.nt ∧ ∀ x, VR μ (sl2 ops tm vs (add D i) x) ((a.put o.dst v').tmps.getD x undef) := by
  have same : ∀ x, wrOf ops.toList 0 x ≠ some i → sl2 ops tm vs (add D i) x = sl2 ops tm vs D x := by
    intro x hx
    unfold sl2
    cases hw : wrOf ops.toList 0 x with
    | none => rfl
    | some j =>
      have : j ≠ i := fun e => hx (by rw [hw, e])
      simp [add, this]
  cases hd : o.dst with
  | none =>
    refine ⟨hsize, fun x => ?_⟩
    rw [same x ?_]
    · exact hget x
    · intro hw
      obtain ⟨_, oj, hoj, hdj⟩ := wrOf_spec _ _ _ _ hw
      simp only [Nat.sub_zero, hr.op, Option.some.injEq] at hoj
      subst hoj
      rw [hd] at hdj; simp at hdj
  | some d =>
    have hwd : wrOf ops.toList 0 d = some i := by
      have := dstsOnce_spec ops.toList ops.toList 0 honce i o d hr.op hd
      simpa using this
    have hd1 : d < fr.nt := by
      unfold dOk at hdst
      rw [List.all_eq_true] at hdst
      have := hdst o (List.mem_of_getElem? hr.op)
      rw [hd] at this
      simp only [Bool.and_eq_true] at this
      exact Nat.le_of_ble_eq_true this.1
    refine ⟨by simp [Act.put, hsize], fun x => ?_⟩
    by_cases hx : x = d
    · subst hx
      have : ((a.put (some x) v').tmps.getD x undef) = v' := by simp [Act.put, Array.getD_eq_getD_getElem?, hsize, hd1]
      rw [this]
      unfold sl2
      rw [hwd]
      simp only [add, decide_true, Bool.or_true, if_true]
      rw [List.getD_eq_getElem?_getD, hv]
      exact hvr
    · rw [same x]
      · have : ((a.put (some d) v').tmps.getD x undef) = a.tmps.getD x undef := by
          simp [Act.put, Array.getD_eq_getD_getElem?, Array.getElem?_setIfInBounds_ne (Ne.symm hx)]
        rw [this]; exact hget x
      · intro hw
        obtain ⟨_, oj, hoj, hdj⟩ := wrOf_spec _ _ _ _ hw
        simp only [Nat.sub_zero, hr.op, Option.some.injEq] at hoj
        subst hoj
        rw [hd] at hdj; simp at hdj; exact hx hdj.symm
theorem tm2 (tm : Tr Value) (ops : Array Oper) (nt : Nat) (hdst : dOk ops.toList nt = true) (honce : dstsOnce ops.toList ops.toList 0 = true) (vs : List Value) (D : Nat → Bool) : ∀ n, n ≤ ops.toList.length → ∃ tm' : Tr Value, ∀ x, (tm'.find x).getD undef = sl2 ops tm vs (fun j => D j && decide (j < n)) x
  | 0, _ => ⟨tm, fun x => by unfold sl2; split <;> simp⟩
  | n + 1, h => by
    obtain ⟨t, ht⟩ := tm2 tm ops nt hdst honce vs D n (by omega)
    have hn : n < ops.toList.length := by omega
    cases hd : (ops.toList[n]).dst with
    | none =>
      refine ⟨t, fun x => ?_⟩
      rw [ht]
      unfold sl2
      cases hw : wrOf ops.toList 0 x with
      | none => rfl
      | some j =>
        obtain ⟨_, oj, hoj, hdj⟩ := wrOf_spec _ _ _ _ hw
        simp only [Nat.sub_zero] at hoj
        have : j ≠ n := by
          rintro rfl
          rw [List.getElem?_eq_getElem hn] at hoj
          simp only [Option.some.injEq] at hoj
          subst hoj; rw [hd] at hdj; simp at hdj
        have e : decide (j < n) = decide (j < n + 1) := by by_cases h1 : j < n <;> simp [h1] <;> omega
        simp only [e]
    | some d =>
      have hd1 : d < Tr.top := by
        unfold dOk at hdst
        rw [List.all_eq_true] at hdst
        have := hdst _ (List.getElem_mem hn)
        rw [hd] at this
        simp only [Bool.and_eq_true] at this
        exact Nat.le_of_ble_eq_true this.2
      have hwd : wrOf ops.toList 0 d = some n := by
        have := dstsOnce_spec ops.toList ops.toList 0 honce n _ d (List.getElem?_eq_getElem hn) hd
        simpa using this
      refine ⟨t.put d (some (sl2 ops tm vs (fun j => D j && decide (j < n + 1)) d)), fun x => ?_⟩
      rw [Tr.find_put _ _ _ _ hd1]
      by_cases hx : x = d
      · subst hx; rw [if_pos rfl]; rfl
      · rw [if_neg hx, ht]
        unfold sl2
        cases hw : wrOf ops.toList 0 x with
        | none => rfl
        | some j =>
          obtain ⟨_, oj, hoj, hdj⟩ := wrOf_spec _ _ _ _ hw
          simp only [Nat.sub_zero] at hoj
          have : j ≠ n := by
            rintro rfl
            rw [List.getElem?_eq_getElem hn] at hoj
            simp only [Option.some.injEq] at hoj
            subst hoj; rw [hd] at hdj; simp only [Option.some.injEq] at hdj; exact hx hdj.symm
          have e : decide (j < n) = decide (j < n + 1) := by by_cases h1 : j < n <;> simp [h1] <;> omega
          simp only [e]
theorem wants_none {o : Oper} (h : qOp o = true) : o.guard = none ∧ kind o = .quiet := by
  unfold qOp at h
  rw [Bool.and_eq_true] at h
  obtain ⟨h1, h2⟩ := h
  constructor
  · cases hg : o.guard with
    | none => rfl
    | some g => rw [hg] at h1; simp at h1
  · cases hk : kind o with
    | quiet => rfl
    | _ => rw [hk] at h2; simp at h2
theorem callK_sound {E : Env} {f : FuncId} {args : List Value} {h : Hp} {k : Ev.End × Hp → Prop} (hk : callK E f args h k) : ∃ x, oOf E f args h = some x ∧ k x := by
  unfold callK at hk
  unfold oOf
  split at hk
  · rename_i x hx; rw [hx]; exact ⟨x, rfl, hk⟩
  · rename_i hx
    rw [hx]
    simp only
    split at hk
    · rename_i p v h' ht
      rw [ht]
      simp only
      rw [if_pos hk.1]
      exact ⟨_, rfl, sEnd_eq v _ hk.2⟩
    · exact hk.elim
end
end Go.Proofs.YtnbfhihibgdgpaaGreatDoor.gm
