/- An evaluator of the model's code, sound for every world, second edition: part 5. -/
import Derived.Test.YtcjbpmphkmcmjaaSz4
import Derived.ProofKit
import Derived.OpenShut
import Derived.Carry
import Derived.Below
namespace Go.Ev
noncomputable section
open Go.RowKit
abbrev Out4 := Ex × Fr × Option FrameMode × Hp
abbrev Rec := Bool → Code → Fr → Option FrameMode → Hp → Option Out4
def aRes (P : Program) (rows : Tr Row) (tm : Tr Value) : List ResultVar → Option (List Value)
  | [] => some []
  | .tmp t :: r => match aRes P rows tm r with
    | some l => some ((tm.find t).getD undef :: l)
    | none => none
  | .cell c t :: r => match aLoad P rows t ((tm.find c).getD undef), aRes P rows tm r with
    | some v, some l => some (v :: l)
    | _, _ => none
def aResults (P : Program) (rows : Tr Row) (tm : Tr Value) (fn : Func) : Option Value :=
  match aRes P rows tm fn.results.toList with
  | some [v] => some v
  | some l => some (.tuple l.toArray)
  | none => none
def ofL : List Value → Nat → Tr Value → Tr Value
  | [], _, t => t
  | v :: r, i, t => ofL r (i + 1) (t.put i (some v))
def leaves (P : Program) (rec : Rec) (fn : Func) (tm : Tr Value) : List Deferred → FrameMode → Hp → Option (End × Hp)
  | [], .returning, h => (match aResults P h.rows tm fn with | some v => some (.ret v, h) | none => none)
  | [], .panicking c, h => some (.pan c, h)
  | [], .run, _ => none
  | d :: ds, u, h =>
    match d.target, u with
    | _, .run => none
    | .fn (.func f) cap, u =>
      bif okFn P f then
        match P.funcs[f]? with
        | some fn' =>
          match fn'.body with
          | some c =>
            bif Nat.ble (d.args.toList ++ cap.toList).length fn'.ntmps && Nat.ble fn'.ntmps 1000000 then
              match rec false c ⟨ofL (d.args.toList ++ cap.toList) 0 .leaf, fn'.ntmps, []⟩ (some u) h with
              | some (.normal, ⟨tm', _, []⟩, some u', h') => (match aResults P h'.rows tm' fn' with | some _ => leaves P rec fn tm ds (settle u') h' | none => none)
              | some (.ret, ⟨tm', _, []⟩, some u', h') => (match aResults P h'.rows tm' fn' with | some _ => leaves P rec fn tm ds (settle u') h' | none => none)
              | some (.panic ch, ⟨_, _, []⟩, some u', h') => leaves P rec fn tm ds (raised u' ch) h'
              | _ => none
            else none
          | none => none
        | none => none
      else none
    | _, _ => none
def callF (P : Program) (rec : Rec) : CallF := fun f args h =>
  match P.funcs[f]? with
  | some fn =>
    match fn.body with
    | some c =>
      bif Nat.ble args.length fn.ntmps && Nat.ble fn.ntmps 1000000 then
        match rec false c ⟨ofL args 0 .leaf, fn.ntmps, []⟩ none h with
        | some (.normal, fr, _, h') => leaves P rec fn fr.tm fr.df .returning h'
        | some (.ret, fr, _, h') => leaves P rec fn fr.tm fr.df .returning h'
        | some (.panic ch, fr, _, h') => leaves P rec fn fr.tm fr.df (.panicking ch) h'
        | _ => none
      else none
    | none => none
  | none => none
def callO (P : Program) (o : CallF) (rec : Rec) : CallF := fun f args h =>
  match o f args h with
  | some r => some r
  | none => callF P rec f args h
def noO : CallF := fun _ _ _ => none
def round (rec : Rec) (c : Code) (fr : Fr) (u : Option FrameMode) (h : Hp) : Option Out4 :=
  match rec false c fr u h with
  | some (.normal, fr', u', h') => rec true c fr' u' h'
  | r => r
def evStep (P : Program) (o : CallF) (rec : Rec) : Rec
  | true, c, fr, u, h => round rec c fr u h
  | false, .skip, fr, u, h => some (.normal, fr, u, h)
  | false, .ret, fr, u, h => some (.ret, fr, u, h)
  | false, .exit id, fr, u, h => some (.exit id, fr, u, h)
  | false, .seq x y, fr, u, h =>
    match rec false x fr u h with
    | some (.normal, fr', u', h') => rec false y fr' u' h'
    | r => r
  | false, .cond c x y, fr, u, h =>
    match opV fr.tm c with
    | some (.bool true) => rec false x fr u h
    | some (.bool false) => rec false y fr u h
    | _ => none
  | false, .block id c, fr, u, h =>
    match rec false c fr u h with
    | some (.exit j, fr', u', h') => bif Nat.beq j id then some (.normal, fr', u', h') else some (.exit j, fr', u', h')
    | r => r
  | false, .loop c, fr, u, h => round rec c fr u h
  | false, .region _ ops false, fr, u, h => evSeq P (callO P o rec) ops ops.toList fr u h
  | false, .region _ ops true, fr, u, h =>
    match evDraw P (callO P o rec) ops fr h with
    | some (e, fr', h') => some (e, fr', u, h')
    | none => none
  | false, _, _, _, _ => none
def ev (P : Program) (o : CallF) : Nat → Rec
  | 0 => fun _ _ _ _ _ => none
  | n + 1 => evStep P o (ev P o n)
def itemOf : Bool → Code → Item
  | true, c => .inLoop c
  | false, c => .code c
def RecOk (P : Program) (rec : Rec) : Prop :=
  ∀ (B : Base) (it : Bool) (c : Code) (fr : Fr) (u : Option FrameMode) (h : Hp) (x : Out4) (μ0 : Mu) (F0 : Nat → Option Row) (w0 : World) (cs0 : List Frame) (kd : CallKind) (μ : Mu) (a : Act) (cs : List Frame) (w : World),
    rec it c fr u h = some x → SR B μ0 F0 w0 cs0 kd μ fr u h a cs w → WI P kd (itemOf it c) (Post B μ0 F0 w0 cs0 kd x) a cs w
section
variable {P : Program} {B : Base}
def resOf (tmps : Array Value) : ResultVar → Sem Value
  | .tmp t => pure (tmps.getD t undef)
  | .cell a t => do loadVar t (← asAddr (tmps.getD a undef))
theorem results_eq (fn : Func) (tmps : Array Value) : results fn tmps = (do let vs ← fn.results.mapM (resOf tmps); pure (if h : vs.size = 1 then vs[0] else .tuple vs)) := rfl
theorem aRes_sound {rows : Tr Row} {n : Nat} {μ : Mu} {w : World} (hw : WR B μ rows.find n w) {tm : Tr Value} {tmps : Array Value} (hg : ∀ i, VR μ ((tm.find i).getD undef) (tmps.getD i undef)) :
    ∀ (l : List ResultVar) (vs : List Value), aRes P rows tm l = some vs → ∃ vs', (l.mapM (resOf tmps)).run P w = .ok vs' w ∧ VRs μ vs vs' := by
  intro l
  induction l with
  | nil => intro vs h; simp [aRes] at h; subst h; exact ⟨[], by simp [Sem.run_pure], .nil⟩
  | cons r l ih =>
    intro vs h
    cases r with
    | tmp t =>
      simp only [aRes] at h
      split at h
      · rename_i vs0 h0
        simp at h; subst h
        obtain ⟨vs', h1, h2⟩ := ih vs0 h0
        refine ⟨tmps.getD t undef :: vs', ?_, .cons (hg t) h2⟩
        have e : (resOf tmps (.tmp t)).run P w = .ok (tmps.getD t undef) w := rfl
        simp only [List.mapM_cons, Sem.run_bind, Sem.run_pure, Result.andThen_ok, h1, e]
      · simp at h
    | cell c t =>
      simp only [aRes] at h
      split at h
      · rename_i v vs0 hl h0
        simp at h; subst h
        obtain ⟨vs', h1, h2⟩ := ih vs0 h0
        obtain ⟨v', h3, h4⟩ := aLoad_sound (P := P) hw (hg c) hl
        refine ⟨v' :: vs', ?_, .cons h4 h2⟩
        have hp : ∃ ad, tmps.getD c undef = .pointer (some ad) := by
          have hgc := hg c
          generalize tmps.getD c undef = y at *
          generalize (tm.find c).getD undef = x at *
          unfold aLoad at hl
          split at hl
          · cases hgc; exact ⟨_, rfl⟩
          · cases hgc; exact ⟨_, rfl⟩
          · simp at hl
        obtain ⟨ad, had⟩ := hp
        rw [had] at h3
        have h3' : (loadVar t ad).run P w = .ok v' w := by simpa [Instr.loadAt, Instr.sureAddr] using h3
        have e : (resOf tmps (.cell c t)).run P w = .ok v' w := by
          have ea : (asAddr (.pointer (some ad))).run P w = .ok ad w := rfl
          simp only [resOf, Sem.run_bind, had, ea, Result.andThen_ok, h3']
        simp only [List.mapM_cons, Sem.run_bind, Sem.run_pure, Result.andThen_ok, h1, e]
      · simp at h
theorem aResults_sound {rows : Tr Row} {n : Nat} {μ : Mu} {w : World} (hw : WR B μ rows.find n w) {tm : Tr Value} {tmps : Array Value} (hg : ∀ i, VR μ ((tm.find i).getD undef) (tmps.getD i undef)) {fn : Func} {v : Value}
    (h : aResults P rows tm fn = some v) : ∃ v', (results fn tmps).run P w = .ok v' w ∧ VR μ v v' := by
  unfold aResults at h
  have fin : ∀ vs', (fn.results.toList.mapM (resOf tmps)).run P w = .ok vs' w →
      (results fn tmps).run P w = .ok (if h : vs'.toArray.size = 1 then vs'.toArray[0] else .tuple vs'.toArray) w := by
    intro vs' hr
    rw [results_eq, Array.mapM_eq_mapM_toList]
    simp only [Sem.run_bind, Sem.run_map, hr, Result.andThen_ok, Sem.run_pure]
  split at h
  · rename_i v0 h0
    simp at h; subst h
    obtain ⟨vs', h1, h2⟩ := aRes_sound (P := P) hw hg _ _ h0
    obtain ⟨v', m', rfl, hv, hr⟩ := VRs.uncons h2
    have : m' = [] := by have := hr.1; exact List.eq_nil_of_length_eq_zero (by simpa using this.symm)
    subst this
    exact ⟨v', by rw [fin _ h1]; simp, hv⟩
  · rename_i l hne h0
    simp at h; subst h
    obtain ⟨vs', h1, h2⟩ := aRes_sound (P := P) hw hg _ _ h0
    refine ⟨.tuple vs'.toArray, ?_, h2.tuple⟩
    rw [fin _ h1, dif_neg]
    intro h1'
    simp at h1'
    rw [← h2.1] at h1'
    obtain ⟨x, hx⟩ := List.length_eq_one_iff.1 h1'
    exact hne x hx
  · simp at h
theorem ofL_find : ∀ (l : List Value) (i : Nat) (t : Tr Value) (m : Nat), i + l.length ≤ Tr.top → (ofL l i t).find m = if i ≤ m ∧ m < i + l.length then l[m - i]? else t.find m := by
  intro l
  induction l with
  | nil => intro i t m _; simp [ofL]; intro h1 h2; omega
  | cons v l ih =>
    intro i t m h
    simp only [List.length_cons] at h
    simp only [ofL]
    rw [ih (i + 1) _ m (by omega), Tr.find_put _ _ _ _ (by omega)]
    by_cases h1 : i + 1 ≤ m ∧ m < i + 1 + l.length
    · rw [if_pos h1, if_pos ⟨by omega, by simp; omega⟩]
      obtain ⟨j, hj⟩ : ∃ j, m - i = j + 1 := ⟨m - i - 1, by omega⟩
      rw [hj, List.getElem?_cons_succ]; congr 1; omega
    · rw [if_neg h1]
      by_cases h2 : m = i
      · subst h2; rw [if_pos rfl, if_pos ⟨by omega, by simp⟩]; simp
      · rw [if_neg h2, if_neg (by simp; omega)]
theorem frame0 {μ : Mu} {args : List Value} {args' : Array Value} (hv : VRs μ args args'.toList) {n : Nat} (hn : args.length ≤ n) (hn2 : n ≤ 1000000) :
    AR μ ⟨ofL args 0 .leaf, n, []⟩ { tmps := args' ++ Array.replicate (n - args'.size) undef, defers := [] } := by
  have hl : args.length = args'.size := by have := hv.1; simpa using this
  refine ⟨by simp; omega, fun i => ?_, rfl, fun i d d' h => by simp at h⟩
  have htop : args.length ≤ Tr.top := by unfold Tr.top; omega
  simp only
  rw [ofL_find _ _ _ _ (by omega)]
  by_cases hi : i < args.length
  · rw [if_pos ⟨by omega, by omega⟩]
    obtain ⟨v, hv0⟩ : ∃ v, args[i]? = some v := ⟨args[i], List.getElem?_eq_getElem hi⟩
    obtain ⟨v', h1, h2⟩ := hv.get hv0
    have : (args' ++ Array.replicate (n - args'.size) undef).getD i undef = v' := by
      rw [Array.getD_eq_getD_getElem?, Array.getElem?_append_left (by omega)]
      have : args'[i]? = some v' := by simpa using h1
      rw [this]; rfl
    rw [this]
    simp only [Nat.sub_zero, hv0, Option.getD_some]
    exact h2
  · rw [if_neg (by omega)]
    have : (args' ++ Array.replicate (n - args'.size) undef).getD i undef = undef := by
      rw [Array.getD_eq_getD_getElem?, Array.getElem?_append_right (by omega), Array.getElem?_replicate]
      split <;> rfl
    rw [this]
    simp only [Tr.find_leaf, Option.getD_none]
    exact VR.undef μ
theorem PRs.drop {μ : Mu} : ∀ {l l' : List PanicEntry}, PRs μ l l' → PRs μ (l.dropWhile (!·.goexit)) (l'.dropWhile (!·.goexit)) := by
  intro l
  induction l with
  | nil => intro l' h; cases l' with
    | nil => exact trivial
    | cons => exact h.elim
  | cons p l ih => intro l' h; cases l' with
    | nil => exact h.elim
    | cons p' l' =>
      simp only [List.dropWhile_cons]
      rw [← h.1.2.2]
      split
      · exact ih h.2
      · exact h
theorem MR.settle {μ : Mu} {m m' : FrameMode} (h : MR μ m m') : MR μ (Go.settle m) (Go.settle m') := by
  cases m with
  | run => cases m' <;> first | exact h.elim | exact trivial
  | returning => cases m' <;> first | exact h.elim | exact trivial
  | panicking l =>
    cases m' with
    | run => exact h.elim
    | returning => exact h.elim
    | panicking l' =>
      cases l with
      | nil => cases l' with
        | nil => exact trivial
        | cons => exact h.elim
      | cons p l => cases l' with
        | nil => exact h.elim
        | cons p' l' =>
          obtain ⟨v, rc, gx⟩ := p
          obtain ⟨v', rc', gx'⟩ := p'
          obtain ⟨⟨p1, p2, p3⟩, p4⟩ := h
          simp at p2 p3
          subst p2; subst p3
          cases rc with
          | false => exact ⟨⟨p1, rfl, rfl⟩, p4⟩
          | true =>
            have hd := p4.drop
            simp only [Go.settle]
            generalize l.dropWhile (!·.goexit) = x at *
            generalize l'.dropWhile (!·.goexit) = y at *
            cases x <;> cases y <;> first | exact trivial | exact hd.elim | exact hd
theorem MR.raised {μ : Mu} {m m' : FrameMode} {c c' : List PanicEntry} (h : MR μ m m') (hc : PRs μ c c') : MR μ (Go.raised m c) (Go.raised m' c') := by
  cases m <;> cases m' <;> first
    | exact h.elim
    | exact hc
    | exact hc.append h
def RE (B : Base) (μ0 : Mu) (F0 : Nat → Option Row) (w0 : World) (r : End) (h' : Hp) (e : Ending) (w' : World) : Prop :=
  ∃ μ', Le μ0 μ' ∧ WR B μ' h'.rows.find h'.next w' ∧ Keep μ0 F0 w0 μ' h'.rows.find w' ∧ EnR μ' r e
theorem deferred_sound {rec : Rec} (hrec : RecOk P rec) {f : FuncId} {fn : Func} {c : Code} (hf : P.funcs[f]? = some fn) (hb : fn.body = some c) {args : List Value} {args' : Array Value} {μ : Mu} (hv : VRs μ args args'.toList)
    (hn : args.length ≤ fn.ntmps) (hn2 : fn.ntmps ≤ 1000000) {u u' : FrameMode} (hu : MR μ u u') {h : Hp} {x : Out4} (he : rec false c ⟨ofL args 0 .leaf, fn.ntmps, []⟩ (some u) h = some x) {w : World} (hw : WR B μ h.rows.find h.next w)
    {R : Ending → FrameMode → World → Prop}
    (hr : ∀ μ1 a u1' w1, Le μ μ1 → WR B μ1 x.2.2.2.rows.find x.2.2.2.next w1 → Keep μ h.rows.find w μ1 x.2.2.2.rows.find w1 → AR μ1 x.2.1 a → (∃ u1, x.2.2.1 = some u1 ∧ MR μ1 u1 u1') →
      (match x.1 with
        | .normal => a.defers = [] ∧ ∃ v, (results fn a.tmps).run P w1 = .ok v w1 ∧ R (.returned v) u1' w1
        | .ret => a.defers = [] ∧ ∃ v, (results fn a.tmps).run P w1 = .ok v w1 ∧ R (.returned v) u1' w1
        | .panic ch => a.defers = [] ∧ ∀ ch', PRs μ1 ch ch' → R (.panicked ch') u1' w1
        | .exit _ => False)) (hsome : ∃ u1, x.2.2.1 = some u1) : CallsD P f args' u' w R := by
  intro c₀ cs hu0
  let b : Frame := { (default : Frame) with fn := f, kind := .deferred }
  have henter : Frame.enter P f args' .deferred =
      b.at { tmps := args' ++ Array.replicate (fn.ntmps - args'.size) undef, defers := [] } [.code c] := by
    simp [Frame.enter, Frame.at, hf, hb, b]
  have hsr : SR B μ h.rows.find w (c₀ :: cs) .deferred μ ⟨ofL args 0 .leaf, fn.ntmps, []⟩ (some u) h { tmps := args' ++ Array.replicate (fn.ntmps - args'.size) undef, defers := [] } (c₀ :: cs) w :=
    ⟨frame0 hv hn hn2, hw, Keep.refl _ _ _, Le.refl _, ⟨c₀, cs, u', rfl, by subst hu0; rfl, hu⟩, fun _ => rfl⟩
  obtain ⟨e, a', cs', w', hq, harr⟩ := hrec B false c _ _ h x μ h.rows.find w (c₀ :: cs) .deferred μ _ _ w he hsr b [] rfl
  obtain ⟨μ1, hs, her, _⟩ := hq
  simp only [itemOf] at harr
  rw [← henter] at harr
  obtain ⟨u1, hu1⟩ := hsome
  have hcr := hs.cr
  rw [hu1] at hcr
  obtain ⟨c1, rest1, m', e1, rfl, hmr⟩ := hcr
  simp at e1
  obtain ⟨rfl, rfl⟩ := e1
  have key := hr μ1 a' m' w' hs.le hs.wr hs.kp hs.ar ⟨u1, hu1, hmr⟩
  obtain ⟨ex, fr', u2, h'⟩ := x
  cases ex with
  | normal =>
    cases e <;> first | exact her.elim | skip
    obtain ⟨hd, v, h1, h2⟩ := key
    exact ⟨.returned v, m', w', _, h2, Steps.trans harr (.one step_end), rfl, rfl, hd, fn, hf, h1⟩
  | ret =>
    cases e <;> first | exact her.elim | skip
    obtain ⟨hd, v, h1, h2⟩ := key
    obtain ⟨todo, hst⟩ := harr
    exact ⟨.returned v, m', w', _, h2, hst, rfl, rfl, hd, fn, hf, h1⟩
  | panic ch =>
    cases e <;> first | exact her.elim | skip
    rename_i ch'
    obtain ⟨hd, h2⟩ := key
    obtain ⟨todo, hst⟩ := harr
    exact ⟨.panicked ch', m', w', _, h2 ch' her, hst, rfl, rfl, hd, fn, hf⟩
  | exit i => exact key.elim
theorem leaves_sound {rec : Rec} (hrec : RecOk P rec) {fn : Func} {tm : Tr Value} {tmps : Array Value} {r : End} {h' : Hp} {μ0 : Mu} {F0 : Nat → Option Row} {w0 : World} :
    ∀ (ds ds' : List Deferred) (u u' : FrameMode) (h : Hp) (μ : Mu) (w : World), leaves P rec fn tm ds u h = some (r, h') → WR B μ h.rows.find h.next w → Keep μ0 F0 w0 μ h.rows.find w → Le μ0 μ →
      (∀ i, VR μ ((tm.find i).getD undef) (tmps.getD i undef)) → MR μ u u' → ds.length = ds'.length → (∀ (i : Nat) d d', ds[i]? = some d → ds'[i]? = some d' → DR μ d d') →
      Leaves P fn tmps (RE B μ0 F0 w0 r h') ds' u' w := by
  intro ds
  induction ds with
  | nil =>
    intro ds' u u' h μ w he hw hk hl hg hu hlen _
    cases ds' with
    | cons => simp at hlen
    | nil =>
      cases u with
      | run => simp [leaves] at he
      | returning =>
        cases u' <;> first | exact hu.elim | skip
        simp only [leaves] at he
        split at he
        · rename_i v hv
          simp at he; obtain ⟨rfl, rfl⟩ := he
          obtain ⟨v', h1, h2⟩ := aResults_sound (P := P) hw hg hv
          exact ⟨v', h1, μ, hl, hw, hk, h2⟩
        · simp at he
      | panicking c =>
        cases u' <;> first | exact hu.elim | skip
        simp only [leaves, Option.some.injEq, Prod.mk.injEq] at he
        obtain ⟨rfl, rfl⟩ := he
        exact ⟨μ, hl, hw, hk, hu⟩
  | cons d ds ih =>
    intro ds' u u' h μ w he hw hk hl hg hu hlen hd
    cases ds' with
    | nil => simp at hlen
    | cons d' ds' =>
      have hd0 := hd 0 d d' rfl rfl
      have hd1 : ∀ (i : Nat) e e', ds[i]? = some e → ds'[i]? = some e' → DR μ e e' := fun i e e' h1 h2 => hd (i + 1) e e' (by simpa using h1) (by simpa using h2)
      unfold leaves at he
      split at he
      · simp at he
      · rename_i u _ _ f cap htar hrun
        cases hok : okFn P f with
        | false => simp [hok] at he
        | true =>
          simp only [hok, cond_true] at he
          split at he
          · rename_i fn' hf
            split at he
            · rename_i c hb
              cases hc : (Nat.ble (d.args.toList ++ cap.toList).length fn'.ntmps && Nat.ble fn'.ntmps 1000000) with
              | false => simp only [hc, cond_false] at he; simp at he
              | true =>
                simp only [hc, cond_true] at he
                simp only [Bool.and_eq_true] at hc
                have c1 := Nat.le_of_ble_eq_true hc.1
                have c2 := Nat.le_of_ble_eq_true hc.2
                obtain ⟨f0, cp, cp', t1, t2, t3, t4⟩ := hd0
                rw [htar] at t1
                simp at t1
                obtain ⟨rfl, rfl⟩ := t1
                have hargs : VRs μ (d.args.toList ++ cap.toList) (d'.args ++ cp').toList := by simpa using t4.append t3
                have hne : u' ≠ .run := by
                  intro e; subst e
                  cases u <;> first | exact hu.elim | exact hrun rfl
                have hinv : (invoke d'.target d'.args).run P w = .ok (.enter f (d'.args ++ cp')) w := by
                  rw [t2]; simp only [invoke]; exact run_callFunc hok _
                refine ⟨hne, .func f, cp', f, d'.args ++ cp', t2, hinv, ?_⟩
                have again : ∀ (u1 : FrameMode) (h1 : Hp) (μ1 : Mu) (w1 : World) (u1' : FrameMode), leaves P rec fn tm ds u1 h1 = some (r, h') → Le μ μ1 → WR B μ1 h1.rows.find h1.next w1 → Keep μ h.rows.find w μ1 h1.rows.find w1 → MR μ1 u1 u1' →
                    Leaves P fn tmps (RE B μ0 F0 w0 r h') ds' u1' w1 := by
                  intro u1 h1 μ1 w1 u1' hl1 q1 q2 q3 q4
                  exact ih ds' u1 u1' h1 μ1 w1 hl1 q2 (hk.trans q3) (hl.trans q1) (fun i => (hg i).le q1) q4 (by simpa using hlen) (fun i e e' a1 a2 => (hd1 i e e' a1 a2).le q1)
                split at he
                · rename_i tm' nt' u1 h1 hx
                  split at he
                  · rename_i v hv
                    refine deferred_sound hrec hf hb hargs c1 c2 hu hx hw (R := _) (fun μ1 a u1' w1 q1 q2 q3 q4 q5 => ?_) ⟨u1, rfl⟩
                    obtain ⟨u2, e2, hm⟩ := q5
                    simp at e2; subst e2
                    obtain ⟨v', r1, r2⟩ := aResults_sound (P := P) q2 q4.get hv
                    have hdf : a.defers = [] := List.eq_nil_of_length_eq_zero (by have := q4.dlen; simpa using this.symm)
                    exact ⟨hdf, v', r1, again _ h1 μ1 w1 _ he q1 q2 q3 hm.settle⟩
                  · simp at he
                · rename_i tm' nt' u1 h1 hx
                  split at he
                  · rename_i v hv
                    refine deferred_sound hrec hf hb hargs c1 c2 hu hx hw (R := _) (fun μ1 a u1' w1 q1 q2 q3 q4 q5 => ?_) ⟨u1, rfl⟩
                    obtain ⟨u2, e2, hm⟩ := q5
                    simp at e2; subst e2
                    obtain ⟨v', r1, r2⟩ := aResults_sound (P := P) q2 q4.get hv
                    have hdf : a.defers = [] := List.eq_nil_of_length_eq_zero (by have := q4.dlen; simpa using this.symm)
                    exact ⟨hdf, v', r1, again _ h1 μ1 w1 _ he q1 q2 q3 hm.settle⟩
                  · simp at he
                · rename_i ch tm' nt' u1 h1 hx
                  refine deferred_sound hrec hf hb hargs c1 c2 hu hx hw (R := _) (fun μ1 a u1' w1 q1 q2 q3 q4 q5 => ?_) ⟨u1, rfl⟩
                  obtain ⟨u2, e2, hm⟩ := q5
                  simp at e2; subst e2
                  have hdf : a.defers = [] := List.eq_nil_of_length_eq_zero (by have := q4.dlen; simpa using this.symm)
                  exact ⟨hdf, fun ch' hch => again _ h1 μ1 w1 _ he q1 q2 q3 (hm.raised hch)⟩
                · simp at he
            · simp at he
          · simp at he
      · simp at he
theorem callF_ok {rec : Rec} (hrec : RecOk P rec) : CallsOk P (callF P rec) := by
  intro B f args h r h' μ w args' he hw hargs hok
  unfold callF at he
  split at he
  · rename_i fn hf
    split at he
    · rename_i c hb
      cases hc : (Nat.ble args.length fn.ntmps && Nat.ble fn.ntmps 1000000) with
      | false => simp only [hc, cond_false] at he; simp at he
      | true =>
        simp only [hc, cond_true] at he
        simp only [Bool.and_eq_true] at hc
        have c1 := Nat.le_of_ble_eq_true hc.1
        have c2 := Nat.le_of_ble_eq_true hc.2
        intro cs
        let b : Frame := { (default : Frame) with fn := f, kind := .normal }
        have henter : Frame.enter P f args' .normal =
            b.at { tmps := args' ++ Array.replicate (fn.ntmps - args'.size) undef, defers := [] } [.code c] := by
          simp [Frame.enter, Frame.at, hf, hb, b]
        have hsr : SR B μ h.rows.find w cs .normal μ ⟨ofL args 0 .leaf, fn.ntmps, []⟩ none h { tmps := args' ++ Array.replicate (fn.ntmps - args'.size) undef, defers := [] } cs w :=
          ⟨frame0 hargs c1 c2, hw, Keep.refl _ _ _, Le.refl _, rfl, fun h => by simp at h⟩
        have run : ∀ x, rec false c ⟨ofL args 0 .leaf, fn.ntmps, []⟩ none h = some x → ∃ e a' w', Arrives P (lone (Frame.enter P f args' .normal) cs w) b [] cs e a' w' ∧
            ∃ μ1, Le μ μ1 ∧ WR B μ1 x.2.2.2.rows.find x.2.2.2.next w' ∧ Keep μ h.rows.find w μ1 x.2.2.2.rows.find w' ∧ AR μ1 x.2.1 a' ∧ ER μ1 x.1 e := by
          intro x hx
          obtain ⟨e, a', cs', w', hq, harr⟩ := hrec B false c _ _ h x μ h.rows.find w cs .normal μ _ _ w hx hsr b [] rfl
          obtain ⟨μ1, hs, her, hkd⟩ := hq
          have hu : x.2.2.1 = none := by
            cases hu : x.2.2.1 with
            | none => rfl
            | some m => have := hkd (by rw [hu]; rfl); simp at this
          have hcs : cs' = cs := by have := hs.cr; rw [hu] at this; exact this
          subst hcs
          simp only [itemOf] at harr
          rw [← henter] at harr
          exact ⟨e, a', w', harr, μ1, hs.le, hs.wr, hs.kp, hs.ar, her⟩
        have last : ∀ (fr : Fr) (h1 : Hp) (u u' : FrameMode) (a' : Act) (w' : World) (todo : List Item) (μ1 : Mu), leaves P rec fn fr.tm fr.df u h1 = some (r, h') → Le μ μ1 → WR B μ1 h1.rows.find h1.next w' → Keep μ h.rows.find w μ1 h1.rows.find w' → AR μ1 fr a' → MR μ1 u u' →
            Steps P (lone (Frame.enter P f args' .normal) cs w) (lone { b.at a' todo with mode := u' } cs w') →
            ∃ e w'' fr', RE B μ h.rows.find w r h' e w'' ∧ Comes P (lone (Frame.enter P f args' .normal) cs w) (lone fr' cs w'') e ∧ fr'.fn = f ∧ fr'.leaving P w'' e := by
          intro fr h1 u u' a' w' todo μ1 hl q1 q2 q3 q4 q5 hst
          have hlv := leaves_sound hrec (tmps := a'.tmps) fr.df a'.defers u u' h1 μ1 w' hl q2 q3 q1 q4.get q5 q4.dlen q4.dget
          obtain ⟨e', w'', fr', hR, hs, hfn, hl⟩ := leaves_steps a'.defers u' w' { b.at a' todo with mode := u' } cs rfl rfl rfl hf rfl hlv
          exact ⟨e', w'', fr', hR, Comes.of_steps hst hs, hfn, hl⟩
        split at he
        · rename_i fr u1 h1 hx
          obtain ⟨e, a', w', harr, μ1, q1, q2, q3, q4, q5⟩ := run _ hx
          cases e <;> first | exact q5.elim | skip
          exact last fr h1 .returning .returning a' w' [] μ1 he q1 q2 q3 q4 trivial (Steps.trans harr (.one step_end))
        · rename_i fr u1 h1 hx
          obtain ⟨e, a', w', harr, μ1, q1, q2, q3, q4, q5⟩ := run _ hx
          cases e <;> first | exact q5.elim | skip
          obtain ⟨todo, hst⟩ := harr
          exact last fr h1 .returning .returning a' w' todo μ1 he q1 q2 q3 q4 trivial hst
        · rename_i ch fr u1 h1 hx
          obtain ⟨e, a', w', harr, μ1, q1, q2, q3, q4, q5⟩ := run _ hx
          cases e <;> first | exact q5.elim | skip
          obtain ⟨todo, hst⟩ := harr
          exact last fr h1 (.panicking ch) (.panicking _) a' w' todo μ1 he q1 q2 q3 q4 q5 hst
        · simp at he
    · simp at he
  · simp at he
theorem post_then {μ0 : Mu} {F0 : Nat → Option Row} {w0 : World} {cs0 : List Frame} {kd : CallKind} {x y : Out4} {e : Exit} {a : Act} {cs : List Frame} {w : World} {K : Act → List Frame → World → Prop}
    (h : Post B μ0 F0 w0 cs0 kd x e a cs w) (h1 : x.1 = .normal → ∀ μ, SR B μ0 F0 w0 cs0 kd μ x.2.1 x.2.2.1 x.2.2.2 a cs w → K a cs w) (h2 : x.1 ≠ .normal → y = x) :
    Then K (Post B μ0 F0 w0 cs0 kd y) e a cs w := by
  obtain ⟨μ, hs, her, hk⟩ := h
  cases e with
  | normal =>
    have : x.1 = .normal := by
      obtain ⟨ex, _⟩ := x
      cases ex <;> first | rfl | exact her.elim
    exact h1 this μ hs
  | _ =>
    have hne : x.1 ≠ .normal := by
      intro e0; rw [e0] at her; exact her.elim
    rw [h2 hne]
    exact ⟨μ, hs, her, hk⟩
theorem round_ok {rec : Rec} (hrec : RecOk P rec) {c : Code} {it : Item} (hit : it = .code (.loop c) ∨ it = .inLoop c) {fr : Fr} {u : Option FrameMode} {h : Hp} {x : Out4} {μ0 : Mu} {F0 : Nat → Option Row} {w0 : World} {cs0 : List Frame} {kd : CallKind}
    {μ : Mu} {a : Act} {cs : List Frame} {w : World} (he : round rec c fr u h = some x) (hs : SR B μ0 F0 w0 cs0 kd μ fr u h a cs w) : WI P kd it (Post B μ0 F0 w0 cs0 kd x) a cs w := by
  refine wi_round hit ?_
  unfold round at he
  split at he
  · rename_i fr' u' h1 hx
    refine wi_mono (hrec B false c fr u h _ μ0 F0 w0 cs0 kd μ a cs w hx hs) fun e a1 cs1 w1 hp => ?_
    exact post_then hp (fun _ μ1 hs1 => hrec B true c fr' u' h1 x μ0 F0 w0 cs0 kd μ1 a1 cs1 w1 he hs1) (fun h => absurd rfl h)
  · rename_i r hne
    refine wi_mono (hrec B false c fr u h x μ0 F0 w0 cs0 kd μ a cs w he hs) fun e a1 cs1 w1 hp => ?_
    exact post_then hp (fun h1 μ1 hs1 => by obtain ⟨ex, f1, u1, h1'⟩ := x; simp only at h1; subst h1; exact absurd he (hne f1 u1 h1')) (fun _ => rfl)
theorem callO_ok {o : CallF} (ho : CallsOk P o) {rec : Rec} (hrec : RecOk P rec) : CallsOk P (callO P o rec) := by
  intro B f args h r h' μ w args' he
  unfold callO at he
  split at he
  · rename_i x hx
    simp at he; subst he
    exact ho B f args h r h' μ w args' hx
  · exact callF_ok hrec B f args h r h' μ w args' he
theorem noO_ok : CallsOk P noO := by
  intro B f args h r h' μ w args' he
  simp [noO] at he
theorem step_ok (hm : P.follows .mixedOrders = true) {o : CallF} (ho : CallsOk P o) {rec : Rec} (hrec : RecOk P rec) : RecOk P (evStep P o rec) := by
  intro B it c fr u h x μ0 F0 w0 cs0 kd μ a cs w he hs
  unfold evStep at he
  split at he
  · exact round_ok hrec (.inr rfl) he hs
  · simp at he; subst he; exact wi_skip ⟨μ, hs, trivial, hs.kdef⟩
  · simp at he; subst he; exact wi_ret ⟨μ, hs, trivial, hs.kdef⟩
  · simp at he; subst he; exact wi_exit ⟨μ, hs, rfl, hs.kdef⟩
  · rename_i x1 y1
    refine wi_seq ?_
    split at he
    · rename_i fr' u' h1 hx
      refine wi_mono (hrec B false x1 fr u h _ μ0 F0 w0 cs0 kd μ a cs w hx hs) fun e a1 cs1 w1 hp => ?_
      exact post_then hp (fun _ μ1 hs1 => hrec B false y1 fr' u' h1 x μ0 F0 w0 cs0 kd μ1 a1 cs1 w1 he hs1) (fun h => absurd rfl h)
    · rename_i hne
      refine wi_mono (hrec B false x1 fr u h x μ0 F0 w0 cs0 kd μ a cs w he hs) fun e a1 cs1 w1 hp => ?_
      exact post_then hp (fun h1 μ1 hs1 => by obtain ⟨ex, f1, u1, h1'⟩ := x; simp only at h1; subst h1; exact absurd he (hne f1 u1 h1')) (fun _ => rfl)
  · rename_i c0 x1 y1
    split at he
    · rename_i hc
      have hv := opV_sound hs.ar _ _ hc
      have : a.eval c0 = .bool true := by generalize a.eval c0 = y at *; cases hv; rfl
      exact wi_cond this (hrec B false x1 fr u h x μ0 F0 w0 cs0 kd μ a cs w he hs)
    · rename_i hc
      have hv := opV_sound hs.ar _ _ hc
      have : a.eval c0 = .bool false := by generalize a.eval c0 = y at *; cases hv; rfl
      exact wi_cond this (hrec B false y1 fr u h x μ0 F0 w0 cs0 kd μ a cs w he hs)
    · simp at he
  · rename_i id c0
    refine wi_block ?_
    split at he
    · rename_i j fr' u' h1 hx
      refine wi_mono (hrec B false c0 fr u h _ μ0 F0 w0 cs0 kd μ a cs w hx hs) fun e a1 cs1 w1 hp => ?_
      obtain ⟨μ1, hs1, her, hk⟩ := hp
      cases e <;> first | exact her.elim | skip
      rename_i j'
      have her' : j = j' := her
      subst her'
      cases hb : Nat.beq j id with
      | false =>
        simp only [hb, cond_false, Option.some.injEq] at he; subst he
        have : j ≠ id := by intro e; subst e; simp at hb
        simp only [InBlock, this, if_false]
        exact ⟨μ1, hs1, rfl, hk⟩
      | true =>
        simp only [hb, cond_true, Option.some.injEq] at he; subst he
        have := Nat.eq_of_beq_eq_true hb
        simp only [InBlock, this, if_true]
        exact ⟨μ1, hs1, trivial, hk⟩
    · rename_i hne
      refine wi_mono (hrec B false c0 fr u h x μ0 F0 w0 cs0 kd μ a cs w he hs) fun e a1 cs1 w1 hp => ?_
      obtain ⟨μ1, hs1, her, hk⟩ := hp
      obtain ⟨ex, f1, u1, h1'⟩ := x
      cases e with
      | exit j' =>
        cases ex <;> first | exact her.elim | skip
        exact absurd he (hne _ _ _ _)
      | _ => exact ⟨μ1, hs1, her, hk⟩
  · exact round_ok hrec (.inl rfl) he hs
  · rename_i id ops
    have := evSeq_sound (callO_ok ho hrec) ops.toList 0 fr u h μ a cs w (by simp) he hs
    refine wi_region ?_
    rw [List.range_eq_range', ← Array.length_toList]
    exact this
  · rename_i id ops
    split at he
    · rename_i x0 fr' h1 hd
      simp at he; subst he
      refine wi_of_wp (wp_mono (evDraw_sound (callO_ok ho hrec) hm hd hs.ar hs.wr) ?_)
      rintro e a1 w1 ⟨μ1, q1, q2, q3, q4, q5⟩
      exact ⟨μ1, ⟨q4, q2, hs.kp.trans q3, hs.le.trans q1, hs.cr.le q1, hs.kdef⟩, q5, hs.kdef⟩
    · simp at he
  · simp at he
theorem ev_ok (hm : P.follows .mixedOrders = true) {o : CallF} (ho : CallsOk P o) : ∀ n, RecOk P (ev P o n) := by
  intro n
  induction n with
  | zero => intro B it c fr u h x μ0 F0 w0 cs0 kd μ a cs w he; simp [ev] at he
  | succ n ih => exact step_ok hm ho ih
end
def runO (P : Program) (o : CallF) (n : Nat) (f : FuncId) (args : List Value) (h : Hp) : Option (End × Hp) := callF P (ev P o n) f args h
def run (P : Program) (n : Nat) (f : FuncId) (args : List Value) (h : Hp) : Option (End × Hp) := runO P noO n f args h
def ret? : Option (End × Hp) → Option Value
  | some (.ret r, _) => some r
  | _ => none
theorem run_closedO {P : Program} (hm : P.follows .mixedOrders = true) {o : CallF} (ho : CallsOk P o) {n : Nat} {f : FuncId} (hok : okFn P f = true) {args : List Value} (hfl : args.all (flat 12) = true) {v : Value} (hv : flat 12 v = true)
    (h : ret? (runO P o n f args ⟨.leaf, 0⟩) = some v) (w : World) (hT : TabW w) :
    Calls P f args.toArray w fun e w' => e = .returned v ∧ Below w.heap.size w w' := by
  unfold ret? at h
  split at h
  · rename_i r h' hr
    simp at h; subst h
    have hw : WR ⟨fun b => w.heap.size ≤ b, fun _ => False⟩ (fun _ => none) (Hp.rows ⟨.leaf, 0⟩).find (Hp.next ⟨.leaf, 0⟩) w :=
      ⟨fun _ h => h, fun _ hz => hz.elim, fun _ _ _ => rfl, fun q row hq => by simp [Tr.find_leaf] at hq, fun q row hq => by simp [Tr.find_leaf] at hq, fun q1 q2 x y b o s o' s' hx => by simp [Tr.find_leaf] at hx, fun _ _ _ _ _ hm => by simp at hm, ⟨0, fun _ _ _ => rfl⟩, TabOk.base hT⟩
    have hargs : VRs (fun _ => none) args args.toArray.toList := by
      refine ⟨by simp, fun i v v' h1 h2 => ?_⟩
      simp at h2
      rw [h1] at h2; simp at h2; subst h2
      rw [List.all_eq_true] at hfl
      exact flat_refl _ _ (hfl v (List.mem_of_getElem? h1))
    refine (callF_ok (ev_ok hm ho n) _ f args ⟨.leaf, 0⟩ (.ret r) h' (fun _ => none) w args.toArray hr hw hargs hok).mono ?_
    rintro e w' ⟨μ', q1, q2, q3, q4⟩
    cases e with
    | returned v' =>
      refine ⟨by rw [flat_eq _ _ _ hv q4], ⟨q3.os, q3.tape, q3.output, q3.size, fun k hk => q3.block k hk ?_⟩⟩
      rintro ⟨q, row, o', s, hq, _⟩
      simp [Tr.find_leaf] at hq
    | panicked c => exact q4.elim
    | outgrown => exact q4.elim
  · simp at h
theorem run_closed {P : Program} (hm : P.follows .mixedOrders = true) {n : Nat} {f : FuncId} (hok : okFn P f = true) {args : List Value} (hfl : args.all (flat 12) = true) {v : Value} (hv : flat 12 v = true)
    (h : ret? (run P n f args ⟨.leaf, 0⟩) = some v) (w : World) (hT : TabW w) :
    Calls P f args.toArray w fun e w' => e = .returned v ∧ Below w.heap.size w w' := run_closedO hm noO_ok hok hfl hv h w hT
end
end Go.Ev
namespace Go.Ev
noncomputable section
open Go.RowKit Go.ChangeShapes Go.WideShapes Go.ChangeAt
section
variable {H : Type} {enc : TypeId × Value → H} {P : Program}
theorem trodAll_below (hl : laidOutB P = true) {W W' : World} (hb : Below W.heap.size W W') : ∀ (ts : List TypeId) (vs : List Value) (ds : List (DataW H)) (p : List MemPlace), (∀ t ∈ ts, P.readableRec t = true ∧ t < P.types.size) →
    DataW.TrodAll enc P W 0 (fun _ => true) true ts vs ds p → (∀ x ∈ p, x.block < W.heap.size) → DataW.TrodAll enc P W' 0 (fun b => decide (b < W.heap.size)) true ts vs ds p := by
  intro ts
  induction ts with
  | nil => intro vs ds p _ h _; cases vs <;> cases ds <;> first | exact h | exact h.elim
  | cons t ts ih =>
    intro vs ds p hr h hlt
    cases vs with
    | nil => cases ds <;> exact h.elim
    | cons v vs =>
      cases ds with
      | nil => exact h.elim
      | cons d ds =>
        obtain ⟨p1, q1, h1, h2, rfl⟩ := h
        exact ⟨p1, q1, Below.trod hl (hr t (by simp)).1 (hr t (by simp)).2 h1 hb (fun x hx => hlt x (by simp [hx])), ih vs ds q1 (fun t' ht' => hr t' (by simp [ht'])) h2 (fun x hx => hlt x (by simp [hx])), rfl⟩
theorem trodAll_length {W : World} {b : Nat} {sp : Nat → Bool} {hd : Bool} : ∀ (ts : List TypeId) (vs : List Value) (ds : List (DataW H)) (p : List MemPlace), DataW.TrodAll enc P W b sp hd ts vs ds p → ds.length = ts.length ∧ vs.length = ts.length := by
  intro ts
  induction ts with
  | nil => intro vs ds p h; cases vs <;> cases ds <;> first | exact ⟨rfl, rfl⟩ | exact h.elim
  | cons t ts ih =>
    intro vs ds p h
    cases vs with
    | nil => cases ds <;> exact h.elim
    | cons v vs =>
      cases ds with
      | nil => exact h.elim
      | cons d ds => obtain ⟨p1, q1, _, h2, _⟩ := h; have := ih vs ds q1 h2; exact ⟨by simp [this.1], by simp [this.2]⟩
def LawSpec (s : ChangeSpec) (n : Nat) : Prop :=
  s.vars = [] ∧ ∀ (H : Type) (ds : List (DataW H)), ds.length = n → (s.fn H ds).results = [.lit (.bool true)] ∧ (s.fn H ds).args = ds ∧ (s.fn H ds).vars = []
theorem law_post {f : Func} {s : ChangeSpec} {tb : TypeId} (hs : LawSpec s f.params.size) (hrt : f.resultTypes = #[tb]) (htb : P.underlying tb = some .bool) (hl : laidOutB P = true)
    (hr : ∀ t ∈ f.params.toList, P.readableRec t = true ∧ t < P.types.size) {W W' : World} {args : Array Value} {ds gs : List (DataW H)} {before : List MemPlace}
    (hW : DataW.Whole enc P f.params.toList s.vars false W args.toList ds gs before) (hb : Below W.heap.size W W') : s.post enc P f false true false false W args (.bool true) W' := by
  have hlt : ∀ p ∈ before, p.block < W.heap.size := fun p hp => hW.lt p hp
  have hW' := hW
  obtain ⟨p, q, hA, hV, rfl, _, _⟩ := hW
  rw [hs.1] at hV
  obtain ⟨rfl, rfl⟩ := trodVars_none hV
  obtain ⟨h1, h2, h3⟩ := hs.2 H ds (by simpa using (trodAll_length _ _ _ _ hA).1)
  refine ⟨ds, [], p ++ [], [], p, [], hW', ?_, ?_, ?_, hb.frame _, fun h => by simp at h⟩
  · rw [List.append_nil, h1, hrt]
    exact trodAll_cons_mk (shut_bool htb _) trodAll_mk0
  · rw [List.append_nil, h2]
    exact trodAll_below hl hb _ _ _ _ hr hA (fun x hx => hlt x (by simp [hx]))
  · rw [List.append_nil, h3, hs.1]; rfl
theorem law_lifted {C : Checked} {os : Os} {f : FuncId} {fn : Func} {s : ChangeSpec} {tb : TypeId} (own : ownKnob C.prog.godebug = none) (started : os.Started) (noInit : C.prog.inits.idxOf? f = none) (hfn : C.prog.funcs[f]? = some fn)
    (witness : ∃ (w : World) (tape : Tape) (i : Input), w.os = os ∧ (w.forCall tape i).Shaped C.prog ∧ i.vars = [] ∧ Input.okWide C.prog (w.forCall tape i) .any w.heap.size f i ∧
      s.pre6 enc C.prog fn [] false (w.forCall tape i).memory i.args ∧ ({} : Assume).holds C.prog (lone (Frame.enter C.prog f i.args .normal) [] (w.forCall tape i)))
    (hs : LawSpec s fn.params.size) (hrt : fn.resultTypes = #[tb]) (htb : C.prog.underlying tb = some .bool) (hl : laidOutB C.prog = true) (hr : ∀ t ∈ fn.params.toList, C.prog.readableRec t = true ∧ t < C.prog.types.size)
    (contract : ∀ (W : World) (base : Nat) (args : Array Value) (ds : List (DataW H)) (p : List MemPlace), (∀ (j : Nat) t v, fn.params[j]? = some t → args[j]? = some v → Value.okWide C.prog W .any base t v) →
      DataW.TrodAll enc C.prog W 0 (fun _ => true) true fn.params.toList args.toList ds p → Calls C.prog f args W fun e W' => e = .returned (.bool true) ∧ Below W.heap.size W W') :
    ReturnsInHanded {} C os f .any (s.pre6 enc C.prog fn [] false) (s.post enc C.prog fn false true false false) := by
  refine returnsInHanded_of_change own started noInit hfn witness ?_
  intro W base args ds gs before hval hW _ _
  have hW' := hW
  obtain ⟨p, q, hA, _⟩ := hW
  refine (contract W base args ds p hval hA).mono fun e W' ⟨he, hb⟩ => ?_
  exact ⟨_, he, law_post hs hrt htb hl hr hW' hb⟩
end
end
end Go.Ev
namespace Go.Sy
noncomputable section
open Go.Ev Go.RowKit
abbrev KO := Out4 → Prop
abbrev Spec := Fr → Option FrameMode → Hp → KO → Prop
abbrev SCall := FuncId → List Value → Hp → (Ev.End × Hp → Prop) → Prop
abbrev SRec := FuncId → List Nat → Bool → Code → Fr → Option FrameMode → Hp → KO → Prop
structure Env where
  P : Program
  T : FuncId → List Value → Hp → Option (Prop × Value × Hp)
  L : FuncId → List Nat → Option Spec
  nan : Bool := false
  clo : Bool := false
  deep : Bool := false
  lit : Bool := false
  O : CallF := fun _ _ _ => none
def br (b : Bool) (x y : Prop) : Prop := cond b x y
def kv (tm : Tr Value) : Operand → Option Value
  | .tmp t => tm.find t
  | .const v => bif flat 12 v then some v else none
  | .func f => some (.func (.func f) #[] #[])
  | .global _ => none
def forceN {β : Type} (n : Nat) (k : Nat → β) : β := match n with
  | 0 => k 0
  | m + 1 => k (Nat.succ m)
theorem forceN_eq {β : Type} (n : Nat) (k : Nat → β) : forceN n k = k n := by cases n <;> rfl
def litB {β : Type} : List UInt8 → (List UInt8 → β) → β
  | [], k => k []
  | b :: l, k => forceN b.toNat fun n => litB l fun l' => k (UInt8.ofNat n :: l')
theorem litB_eq {β : Type} : ∀ (l : List UInt8) (k : List UInt8 → β), litB l k = k l := by
  intro l
  induction l with
  | nil => intro k; rfl
  | cons b l ih => intro k; simp only [litB, forceN_eq, ih]; rw [UInt8.ofNat_toNat]
def nvL {β : Type} (v : Value) (k : Value → β) : β :=
  match v with
  | .int t (.ofNat n) => forceN n fun n => k (.int t (.ofNat n))
  | .int t (.negSucc n) => forceN n fun n => k (.int t (.negSucc n))
  | .bool true => k (.bool true)
  | .bool false => k (.bool false)
  | .string ⟨⟨l⟩⟩ => litB l fun l => k (.string ⟨⟨l⟩⟩)
  | .pointer (some ⟨r, o, none⟩) => forceN r fun r => forceN o fun o => k (.pointer (some ⟨r, o, none⟩))
  | .slice (some ⟨r, o, none⟩) n c => forceN r fun r => forceN o fun o => forceN n fun n => forceN c fun c => k (.slice (some ⟨r, o, none⟩) n c)
  | v => k v
theorem nvL_eq {β : Type} (v : Value) (k : Value → β) : nvL v k = k v := by
  unfold nvL
  split <;> simp only [forceN_eq, litB_eq]
def litCells {β : Type} : List Value → (List Value → β) → β
  | [], k => k []
  | v :: l, k => nvL v fun v' => litCells l fun l' => k (v' :: l')
theorem litCells_eq {β : Type} : ∀ (l : List Value) (k : List Value → β), litCells l k = k l := by
  intro l
  induction l with
  | nil => intro k; rfl
  | cons v l ih => intro k; simp only [litCells, nvL_eq, ih]
def litC (E : Env) (l : List Value) (k : List Value → Prop) : Prop := bif E.lit then litCells l k else k l
theorem litC_eq (E : Env) (l : List Value) (k : List Value → Prop) : litC E l k = k l := by
  unfold litC; cases E.lit <;> simp [litCells_eq]
def nv0 (v : Value) (k : Value → Prop) : Prop :=
  match v with
  | .int t n => k (.int t n)
  | .bool b => k (.bool b)
  | .string s => k (.string s)
  | .pointer none => k (.pointer none)
  | .pointer (some ⟨r, o, none⟩) => k (.pointer (some ⟨r, o, none⟩))
  | .slice none n c => k (.slice none n c)
  | .slice (some ⟨r, o, none⟩) n c => k (.slice (some ⟨r, o, none⟩) n c)
  | .pointer (some ⟨r, o, some 0⟩) => k (.pointer (some ⟨r, o, some 0⟩))
  | .slice (some ⟨r, o, some 0⟩) n c => k (.slice (some ⟨r, o, some 0⟩) n c)
  | .agg ⟨l⟩ => k (.agg ⟨l⟩)
  | .tuple ⟨l⟩ => k (.tuple ⟨l⟩)
  | .map (some r) => k (.map (some r))
  | v => k v
theorem nv0_eq (v : Value) (k : Value → Prop) : nv0 v k = k v := by unfold nv0; split <;> rfl
def nv (E : Env) (v : Value) (k : Value → Prop) : Prop := bif E.lit then nvL v k else nv0 v k
theorem nv_eq (E : Env) (v : Value) (k : Value → Prop) : nv E v k = k v := by
  unfold nv; cases E.lit <;> simp [nvL_eq, nv0_eq]
def cellI (l : List Value) (i : Nat) : Int := match l[i]? with | some (.int _ n) => n | _ => 0
def cellB (l : List Value) (i : Nat) : Bool := match l[i]? with | some (.bool b) => b | _ => false
def cellS (l : List Value) (i : Nat) : ByteArray := match l[i]? with | some (.string s) => s | _ => ⟨#[]⟩
def cellF (l : List Value) (i : Nat) : Nat := match l[i]? with | some (.float _ b) => b | _ => 0
def cellZ (l : List Value) (i : Nat) : Nat := match l[i]? with | some (.slice (some ⟨z, _, _⟩) _ _) => z | _ => 0
def cellO (l : List Value) (i : Nat) : Nat := match l[i]? with | some (.slice (some ⟨_, o, _⟩) _ _) => o | _ => 0
def cellN (l : List Value) (i : Nat) : Nat := match l[i]? with | some (.slice _ n _) => n | _ => 0
def elSz (P : Program) (t : TypeId) : Nat := match P.underlying t with | some (.slice el) => (match szOf P el with | some m => m | none => 0) | _ => 0
def elSzs (P : Program) (t : TypeId) : List Nat := match cT0 P 8 t with | some ts => ts.map (elSz P) | none => []
def symCell (l : List Value) (i m : Nat) : Value → Option Value
  | .int k _ => some (.int k (cellI l i))
  | .bool _ => some (.bool (cellB l i))
  | .string _ => some (.string (cellS l i))
  | .float k _ => some (.float k (cellF l i))
  | .slice none 0 0 => some (.slice (some ⟨cellZ l i, cellO l i, some 0⟩) (cellN l i) m)
  | _ => none
def symCells (l : List Value) (i : Nat) : List Value → List Nat → (List Value → Prop) → Prop
  | [], _, k => k []
  | z :: r, ms, k => match symCell l i (ms.headD 0) z with
    | some v => l[i]? = some v ∧ symCells l (i + 1) r ms.tail fun vs => k (v :: vs)
    | none => False
def need (b : Bool) (p : Prop) : Prop := cond b p False
def eqS (P : Program) : Nat → TypeId → Value → Value → Option Bool
  | 0, _, _, _ => none
  | d + 1, t, x, y =>
    match P.underlying t, x, y with
    | some .bool, .bool a, .bool b => some (a == b)
    | some (.int _), .int k a, .int k' b => bif decide (k = k') then some (a == b) else none
    | some .string, .string a, .string b => some (a == b)
    | some (.struct fields), .agg xs, .agg ys =>
      bif P.stoodInHeld t then none else
        fields.toList.foldr (fun f r =>
          bif decide (f.name ≠ "_") then
            match aPart P f.type xs.toList f.offset, aPart P f.type ys.toList f.offset with
            | some a, some b => (match eqS P d f.type a b, r with | some u, some v => some (u && v) | _, _ => none)
            | _, _ => none
          else r) (some true)
    | _, _, _ => none
theorem sq_ex {α : Type} (f : α) : ∃ g, g = f := ⟨f, rfl⟩
def mpPut : List Value → Value → Value → List Value := Classical.choose (sq_ex mpPut0)
theorem mpPut_eq : mpPut = mpPut0 := Classical.choose_spec (sq_ex mpPut0)
def mpDel : List Value → Value → List Value := Classical.choose (sq_ex mpDel0)
theorem mpDel_eq : mpDel = mpDel0 := Classical.choose_spec (sq_ex mpDel0)
def mpOne : List Value → Value → List Value := Classical.choose (sq_ex mpOne0)
theorem mpOne_eq : mpOne = mpOne0 := Classical.choose_spec (sq_ex mpOne0)
def mpHas0 (C : List Value) (key : Value) : Bool := (mPos0 C key).isSome
def mpHas : List Value → Value → Bool := Classical.choose (sq_ex mpHas0)
theorem mpHas_eq : mpHas = mpHas0 := Classical.choose_spec (sq_ex mpHas0)
def MKeys : List Value → Value → Prop := Classical.choose (sq_ex MKeys0)
theorem MKeys_eq : MKeys = MKeys0 := Classical.choose_spec (sq_ex MKeys0)
def IsOne (C : List Value) (v : Value) : Prop := ∀ x, C[0]? = some x → x = v
def nilSl : Value → Bool | .slice none 0 0 => true | _ => false
section
variable (E : Env)
def sLookup (rows : Tr Row) (t : TypeId) (m key : Value) (ok : Bool) (k : Value → Prop) : Prop :=
  match m with
  | .map (some r) =>
    match rows.find r with
    | some ⟨C, _, .map true⟩ =>
      match E.P.underlying t with
      | some (.map kt et) =>
        need (keyOk E.P kt key) <|
        match zeroOf E.P et with
        | some z =>
          match symCell (mpOne C key) 0 (elSz0 E.P et) z with
          | some v =>
            match nilSl z && !ok with
            | true => MKeys C key ∧ IsOne (mpOne C key) v ∧ k v
            | false => MKeys C key ∧ br (mpHas C key) (IsOne (mpOne C key) v ∧ k (bif ok then .tuple #[v, .bool true] else v)) (k (bif ok then .tuple #[z, .bool false] else z))
          | none => False
        | none => False
      | _ => False
    | _ => (match aLookup E.P rows t (.map (some r)) key ok with | some v => k v | none => False)
  | m => (match aLookup E.P rows t m key ok with | some v => k v | none => False)
def sLoadC (t : TypeId) (cells : List Value) (i : Nat) (k : Value → Prop) : Prop :=
  match zeroOf E.P t, aggB E.P t, szOf E.P t with
  | some z, some false, _ => (match symCell cells i (elSz E.P t) z with | some v => cells[i]? = some v ∧ k v | none => False)
  | some z, some true, some n => bif Nat.ble 100 n then need (decide (i + n ≤ cells.length)) (k (.agg ⟨(cells.drop i).take n⟩)) else need (Nat.beq z.cells.toList.length n) (symCells cells i z.cells.toList (elSzs E.P t) fun vs => k (.agg vs.toArray))
  | _, _, _ => False
def wide (t : TypeId) (cells : List Value) : Bool :=
  Nat.ble 64 cells.length && (cells.any hasSl && (match zeroOf E.P t with | some z => !hasSl z && !z.cells.toList.any hasSl | none => false))
def sLoad (rows : Tr Row) (t : TypeId) (a : Value) (k : Value → Prop) : Prop :=
  match a with
  | .pointer (some ⟨r, i, none⟩) =>
    match rows.find r with
    | some ⟨cells, _, .cells true⟩ => bif E.lit then (match aLoad E.P rows t (.pointer (some ⟨r, i, none⟩)) with | some v => k v | none => False) else sLoadC E t cells i k
    | some ⟨cells, _, .cells false⟩ =>
      match wide E t cells with
      | true => sLoadC E t cells i k
      | false => (match aLoad E.P rows t (.pointer (some ⟨r, i, none⟩)) with | some v => k v | none => False)
    | _ => False
  | .pointer (some ⟨z, i, some 0⟩) => sLoadC E t (gCells z) i k
  | _ => False
def ishl (k : IntKind) (a b : Int) : Int := k.wrap (a * 2 ^ (min b.toNat k.bits))
def ishr (k : IntKind) (a b : Int) : Int := a.fdiv (2 ^ (min b.toNat k.bits))
def iand (k : IntKind) (a b : Int) : Int := k.wrap ((BitVec.ofInt k.bits a &&& BitVec.ofInt k.bits b).toNat)
def ior (k : IntKind) (a b : Int) : Int := k.wrap ((BitVec.ofInt k.bits a ||| BitVec.ofInt k.bits b).toNat)
def ixor (k : IntKind) (a b : Int) : Int := k.wrap ((BitVec.ofInt k.bits a ^^^ BitVec.ofInt k.bits b).toNat)
def iandn (k : IntKind) (a b : Int) : Int := k.wrap ((BitVec.ofInt k.bits a &&& ~~~(BitVec.ofInt k.bits b)).toNat)
def strEq (a b : ByteArray) : Bool := a.toList == b.toList
def strLt (a b : ByteArray) : Bool := Go.Op.bytesLess a.toList b.toList
def sInt (ρ : Operand → Option Value) (o : Oper) (op : BinOp) (ka : IntKind) (a b : Int) (k : Value → Prop) : Prop :=
  match op with
  | .quo => need (b != 0) (k (.int ka (ka.wrap (a.tdiv b))))
  | .rem => need (b != 0) (k (.int ka (a.tmod b)))
  | .and => k (.int ka (iand ka a b))
  | .or => k (.int ka (ior ka a b))
  | .xor => k (.int ka (ixor ka a b))
  | .andNot => k (.int ka (iandn ka a b))
  | .shl => need (decide (0 ≤ b)) (k (.int ka (ishl ka a b)))
  | .shr => need (decide (0 ≤ b)) (k (.int ka (ishr ka a b)))
  | _ => (match ibin op ka a b with | some v => k v | none => (match evPure E.P ρ o with | some v => k v | none => False))
def sShift (op : BinOp) (ka : IntKind) (a b : Int) (k : Value → Prop) : Prop :=
  match op with
  | .shl => need (decide (0 ≤ b)) (k (.int ka (ishl ka a b)))
  | .shr => need (decide (0 ≤ b)) (k (.int ka (ishr ka a b)))
  | _ => False
def sStr (op : BinOp) (a b : ByteArray) (k : Value → Prop) : Prop :=
  match op with
  | .add => need (decide (a.data.toList.length + b.data.toList.length ≤ 9223372036854775807)) (k (.string (a ++ b)))
  | .eql => k (.bool (strEq a b))
  | .neq => k (.bool (!strEq a b))
  | .lss => k (.bool (strLt a b))
  | .leq => k (.bool (strLt a b || strEq a b))
  | .gtr => k (.bool (!(strLt a b || strEq a b)))
  | .geq => k (.bool (!strLt a b))
  | _ => False
def fA (op : BinOp) (k : FloatKind) (a b : Nat) : Option Nat :=
  match op with
  | .add => k.format.add a b
  | .sub => k.format.sub a b
  | .mul => k.format.mul a b
  | .quo => k.format.div a b
  | _ => none
def sFlt (op : BinOp) (ka : FloatKind) (a b : Nat) (k : Value → Prop) : Prop :=
  match op with
  | .add => ∃ r, fA .add ka a b = some r ∧ k (.float ka r)
  | .sub => ∃ r, fA .sub ka a b = some r ∧ k (.float ka r)
  | .mul => ∃ r, fA .mul ka a b = some r ∧ k (.float ka r)
  | .quo => ∃ r, fA .quo ka a b = some r ∧ k (.float ka r)
  | op => (match fcmp op ka a b with | some c => k (.bool c) | none => False)
def fToI (k : FloatKind) (b : Nat) : Option Int := (k.decode b).toInt .zero
def sBin (ρ : Operand → Option Value) (o : Oper) (op : BinOp) (t : TypeId) (x y : Operand) (k : Value → Prop) : Prop :=
  match ρ x, ρ y with
  | some (.int ka a), some (.int kb b) =>
    bif decide (ka = kb) then sInt E ρ o op ka a b k else sShift op ka a b k
  | some (.string a), some (.string b) => sStr op a b k
  | some (.float ka a), some (.float kb b) =>
    bif decide (ka = kb) then
sFlt op ka a b k
    else False
  | some (.pointer a), some (.pointer b) => (match aNil E.P op t (.pointer a) (.pointer b) with | some v => k v | none => False)
  | some (.slice (some _) n c), some (.slice none m d) => need (Nat.blt 0 n) (match aNil E.P op t (.slice (some ⟨0, 0, none⟩) 1 c) (.slice none m d) with | some v => k v | none => False)
  | some (.slice none n c), some (.slice (some _) m d) => need (Nat.blt 0 m) (match aNil E.P op t (.slice none n c) (.slice (some ⟨0, 0, none⟩) 1 d) with | some v => k v | none => False)
  | some (.slice a n c), some (.slice b m d) => (match aNil E.P op t (.slice a n c) (.slice b m d) with | some v => k v | none => False)
  | some .nilFunc, some .nilFunc => (match aNil E.P op t .nilFunc .nilFunc with | some v => k v | none => False)
  | some (.agg a), some (.agg b) =>
    bif E.P.eqGuardType E.P.depth t || !(flat 12 (.agg a) && flat 12 (.agg b)) then False else
      match op, eqS E.P 8 t (.agg a) (.agg b) with
      | .eql, some r => k (.bool r)
      | .neq, some r => k (.bool (!r))
      | _, _ => False
  | some (.func _ _ _), _ => False
  | _, some (.func _ _ _) => False
  | _, _ => (match evPure E.P ρ o with | some v => k v | none => False)
def sIndexAddr (t : TypeId) (x i : Value) (k : Value → Prop) : Prop :=
  match E.P.underlying t, x, i with
  | some (.slice elem), .slice (some ⟨r, o, none⟩) len _, .int _ z =>
    need (decide (0 ≤ z ∧ z < (len : Int))) (match szOf E.P elem with | some m => k (.pointer (some ⟨r, o + z.toNat * m, none⟩)) | none => False)
  | some (.array len elem), .pointer (some ⟨r, o, none⟩), .int _ z =>
    need (decide (0 ≤ z ∧ z < (len : Int))) (match szOf E.P elem with | some m => k (.pointer (some ⟨r, o + z.toNat * m, none⟩)) | none => False)
  | some (.slice elem), .slice (some ⟨r, o, some 0⟩) len _, .int _ z =>
    need (decide (0 ≤ z ∧ z < (len : Int))) (match szOf E.P elem with | some m => k (.pointer (some ⟨r, o + z.toNat * m, some 0⟩)) | none => False)
  | some (.array len elem), .pointer (some ⟨r, o, some 0⟩), .int _ z =>
    need (decide (0 ≤ z ∧ z < (len : Int))) (match szOf E.P elem with | some m => k (.pointer (some ⟨r, o + z.toNat * m, some 0⟩)) | none => False)
  | _, _, _ => False
def byteAt (s : ByteArray) (i : Nat) : Int := match s.data.toList[i]? with | some b => (b.toNat : Int) | none => 0
def sIndex (t : TypeId) (x i : Value) (k : Value → Prop) : Prop :=
  match E.P.underlying t, x, i with
  | some .string, .string s, .int _ z => need (decide (0 ≤ z ∧ z < (s.data.toList.length : Int))) (k (.int .u8 (byteAt s z.toNat)))
  | some (.array len elem), .agg cs, .int _ z =>
    need (decide (0 ≤ z ∧ z < (len : Int))) (bif Nat.ble 100 len then
      (match zeroOf E.P elem, aggB E.P elem, szOf E.P elem with
      | some y, some false, some m => (match symCell cs.toList (z.toNat * m) (elSz E.P elem) y with | some v => cs.toList[z.toNat * m]? = some v ∧ k v | none => False)
      | _, _, _ => False)
    else match szOf E.P elem with | some m => (match aPart E.P elem cs.toList (z.toNat * m) with | some v => k v | none => False) | none => False)
  | _, _, _ => False
def sbnd (d : Nat) : Option Value → Option Int
  | none => some d
  | some (.int _ z) => some z
  | _ => none
def sSlice (t : TypeId) (x : Value) (lo hi : Option Value) (k : Value → Prop) : Prop :=
  match E.P.underlying t, x with
  | some .string, .string s =>
    match sbnd 0 lo, sbnd s.data.toList.length hi with
    | some l, some h => need (decide (0 ≤ l ∧ l ≤ h ∧ h ≤ (s.data.toList.length : Int))) (k (.string (sub s l.toNat h.toNat)))
    | _, _ => False
  | some (.slice elem), .slice (some ⟨r, o, none⟩) len e =>
    match sbnd 0 lo, sbnd len hi, szOf E.P elem with
    | some l, some h, some m => need (decide (0 ≤ l ∧ l ≤ h ∧ h ≤ (len : Int))) (need (Nat.beq m e) (k (.slice (some ⟨r, o + l.toNat * m, none⟩) (h.toNat - l.toNat) m)))
    | _, _, _ => False
  | some (.slice elem), .slice (some ⟨r, o, some 0⟩) len e =>
    match sbnd 0 lo, sbnd len hi, szOf E.P elem with
    | some l, some h, some m => need (decide (0 ≤ l ∧ l ≤ h ∧ h ≤ (len : Int))) (need (Nat.beq m e) (k (.slice (some ⟨r, o + l.toNat * m, some 0⟩) (h.toNat - l.toNat) m)))
    | _, _, _ => False
  | some (.slice elem), .slice none 0 0 =>
    match sbnd 0 lo, sbnd 0 hi, szOf E.P elem with
    | some l, some h, some _ => need (decide (l = 0 ∧ h = 0)) (k (.slice none 0 0))
    | _, _, _ => False
  | _, _ => False
def AllB (l : List Value) : Prop := ∀ v ∈ l, ∃ n, v = .int .u8 n
def allBb : List Value → Bool
  | [] => true
  | .int .u8 _ :: r => allBb r
  | _ => false
theorem allBb_all : ∀ l, allBb l = true → AllB l := by
  intro l
  induction l with
  | nil => intro _ v hv; simp at hv
  | cons a r ih =>
    intro h v hv
    unfold allBb at h
    split at h
    · simp at *
    · rename_i n r' e
      simp only [List.cons.injEq] at e
      obtain ⟨rfl, rfl⟩ := e
      rcases List.mem_cons.1 hv with rfl | hv
      · exact ⟨n, rfl⟩
      · exact ih h v hv
    · simp at h
def bOf (v : Value) : UInt8 := match v with | .int _ n => UInt8.ofNat n.toNat | _ => 0
def sTextC (src dst : TypeId) (cells : List Value) (i len : Nat) (k : Value → Prop) : Prop :=
  match E.P.underlying src, E.P.underlying dst with
  | some (.slice el), some .string =>
    match E.P.underlying el with
    | some (.int .u8) => need (decide (i + len ≤ cells.length)) (bif E.lit then need (allBb ((cells.drop i).take len)) (k (.string ⟨(((cells.drop i).take len).map bOf).toArray⟩)) else AllB ((cells.drop i).take len) ∧ k (.string ⟨(((cells.drop i).take len).map bOf).toArray⟩))
    | _ => False
  | _, _ => False
def sText (rows : Tr Row) (src dst : TypeId) (x : Value) (k : Value → Prop) : Prop :=
  match x with
  | .slice (some ⟨r, i, none⟩) len e =>
    match rows.find r with
    | some ⟨cells, _, .cells true⟩ => sTextC E src dst cells i len k
    | _ => (match aText E.P rows src dst (.slice (some ⟨r, i, none⟩) len e) with | some v => k v | none => False)
  | .slice (some ⟨z, i, some 0⟩) len _ => sTextC E src dst (gCells z) i len k
  | x => (match aText E.P rows src dst x with | some v => k v | none => False)
def sConv (ρ : Operand → Option Value) (rows : Tr Row) (o : Oper) (src dst : TypeId) (x : Operand) (k : Value → Prop) : Prop :=
  match ρ x with
  | some (.int _ n) =>
    match E.P.underlying src, E.P.underlying dst with
    | some (.int _), some (.int k') => k (.int k' (k'.wrap n))
    | some (.int _), some (.float k') => k (.float k' (k'.nearest n))
    | _, _ => (match evPure E.P ρ o with | some v => k v | none => False)
  | some (.float s b) =>
    match E.P.underlying src, E.P.underlying dst with
    | some (.float _), some (.int k') => ∃ n, fToI s b = some n ∧ (k'.min ≤ n ∧ n ≤ k'.max) ∧ k (.int k' n)
    | _, _ => (match evPure E.P ρ o with | some v => k v | none => False)
  | some (.slice a n c) => sText E rows src dst (.slice a n c) k
  | _ => (match evPure E.P ρ o with | some v => k v | none => False)
def sQ (ρ : Operand → Option Value) (rows : Tr Row) (o : Oper) (k : Value → Prop) : Prop :=
  match o.op with
  | .move x | .assign x => (match ρ x with | some v => k v | none => False)
  | .pick c a b =>
    match ρ c with
    | some (.bool b0) =>
      match ρ a, ρ b with
      | some (.bool x), some (.bool y) => k (.bool (cond b0 x y))
      | some x, some y => br b0 (k x) (k y)
      | some x, none => need b0 (k x)
      | none, some y => need (!b0) (k y)
      | none, none => False
    | _ => False
  | .load t a => (match ρ a with | some v => sLoad E rows t v k | none => False)
  | .nilCheck x => (match ρ x with | some (.pointer (some a)) => k (.pointer (some a)) | some (.func (.func f) c d) => k (.func (.func f) c d) | _ => False)
  | .binOp op t x y _ => sBin E ρ o op t x y k
  | .makeInterface t x => (match ρ x with | some v => (bif E.P.concrete t then k (.iface t v) else False) | none => False)
  | .fieldAddr s x f => (match ρ x with | some v => (match aField E.P s f v with | some v => k v | none => False) | none => False)
  | .field t x f => (match ρ x with | some v => (match aFieldV E.P t f v with | some v => k v | none => False) | none => False)
  | .indexAddr t x i => (match ρ x, ρ i with | some v, some j => sIndexAddr E t v j k | _, _ => False)
  | .index t x i => (match ρ x, ρ i with | some v, some j => sIndex E t v j k | _, _ => False)
  | .slice t x lo hi none => (match ρ x, opt ρ lo, opt ρ hi with | some (.pointer p), some l, some h => (match aSliceA E.P rows t (.pointer p) l h with | some v => k v | none => False) | some v, some l, some h => sSlice E t v l h k | _, _, _ => False)
  | .extract x i => (match ρ x with | some v => (match aExtract i v with | some v => k v | none => False) | none => False)
  | .build t parts => (match aBuild E.P ρ t parts with | some v => k v | none => False)
  | .convert src dst x => sConv E ρ rows o src dst x k
  | .call c =>
    match c.callee with
    | .builtin .len => (match evLen E.P ρ c with | some v => k v | none => (match evLenM E.P ρ rows c with | some v => k v | none => False))
    | _ => (match evPure E.P ρ o with | some v => k v | none => False)
  | .makeFunc fn first cap => (match aArgs ρ first.toList, aArgs ρ cap.toList with | some a, some b => k (.func fn a.toArray b.toArray) | _, _ => False)
  | .unOp _ _ _ => (match evPure E.P ρ o with | some v => k v | none => False)
  | .typeAssert _ _ _ _ => (match evPure E.P ρ o with | some v => k v | none => False)
  | .lookup t m key ok => (match ρ m, ρ key with | some mv, some kv => sLookup E rows t mv kv ok k | _, _ => False)
  | _ => False
def sPutCells (rows : Tr Row) (r i : Nat) (vs : List Value) (k : Tr Row → Prop) : Prop :=
  match rows.find r with
  | some ⟨cells, false, .cells true⟩ => need (decide (i + vs.length ≤ cells.length)) (need (allOne vs) (need (Nat.blt r Tr.top) (litC E (ovr cells i vs) fun cs => k (rows.put r (some ⟨cs, false, .cells true⟩)))))
  | some ⟨_, false, .cells false⟩ => (match putCells rows r i vs with | some t => k t | none => False)
  | _ => False
def sFrz1 (rows : Tr Row) (t : TypeId) (v : Value) (k : Value → Tr Row → Prop) : Prop :=
  match v with
  | .slice (some ⟨r, i, none⟩) n e =>
    match rows.find r with
    | some ⟨cells, false, .cells _⟩ => need (decide (i + n * e ≤ cells.length)) (need (Nat.blt 0 e && Nat.blt r Tr.top) (gAll (shown cells i n e) = true ∧ k (.slice (some ⟨gCode (shown cells i n e), 0, some 0⟩) n e) (rows.put r none)))
    | _ => False
  | v => (match frz1 E.P rows t v with | some (v', rows') => k v' rows' | none => False)
def sFrzs : List TypeId → List Value → Tr Row → (List Value → Tr Row → Prop) → Prop
  | [], [], rows, k => k [] rows
  | t :: ts, v :: vs, rows, k => sFrz1 E rows t v fun v' rows => sFrzs ts vs rows fun vs' rows => k (v' :: vs') rows
  | _, _, _, _ => False
def sFrz (rows : Tr Row) (trig : Bool) (ts : List TypeId) (vs : List Value) (k : List Value → Tr Row → Prop) : Prop :=
  match trig && vs.any hasSl with
  | true => sFrzs E ts vs rows k
  | false => k vs rows
def sStore (rows : Tr Row) (t : TypeId) (a v : Value) (k : Tr Row → Prop) : Prop :=
  match a, szOf E.P t with
  | .pointer (some ⟨r, i, none⟩), some m => need (Nat.beq v.cells.toList.length m) (sFrz E rows (goesTo rows (.pointer (some ⟨r, i, none⟩))) (tsOf E.P t 1) v.cells.toList fun vs rows => sPutCells E rows r i vs k)
  | _, _ => False
def sSrc (rows : Tr Row) (m : Nat) (x : Value) (k : Nat → List Value → Bool → Prop) : Prop :=
  match x with
  | .slice none 0 0 => k 0 [] false
  | .slice (some ⟨r, i, none⟩) len e =>
    match rows.find r with
    | some ⟨cells, _, .cells true⟩ => need (decide (i + len * m ≤ cells.length)) (k len ((cells.drop i).take (len * m)) true)
    | some ⟨_, _, .cells false⟩ => (match srcCells rows m (.slice (some ⟨r, i, none⟩) len e) with | some (len, l, s) => k len l s | none => False)
    | _ => False
  | .slice (some ⟨z, i, some 0⟩) len _ => need (decide (i + len * m ≤ (gCells z).length)) (k len (((gCells z).drop i).take (len * m)) true)
  | .string s => need (Nat.beq m 1) (k s.data.toList.length (s.data.toList.map fun b => .int .u8 b.toNat) true)
  | _ => False
def sFrzRow (rows : Tr Row) (sy : Bool) (elem : TypeId) (sv : Value) (k : Tr Row → Prop) : Prop :=
  match sy with
  | false => k rows
  | true =>
    match sv with
    | .slice (some ⟨r, _, none⟩) sl _ =>
      match rows.find r with
      | some ⟨cells, false, .cells false⟩ =>
        match cells.any hasSl with
        | true => sFrzs E (tsOf E.P elem sl) cells rows fun c1 rows1 =>
          match rows1.find r with
          | some ⟨c0, false, .cells false⟩ => need (Nat.beq c0.length c1.length && Nat.blt r Tr.top) (k (rows1.put r (some ⟨c1, false, .cells false⟩)))
          | _ => False
        | false => k rows
      | _ => k rows
    | _ => k rows
def sApp (h : Hp) (m len : Nat) (new : List Value) (sy : Bool) (sv : Value) (k : Value → Hp → Prop) : Prop :=
  match sv with
  | .slice none 0 0 =>
    match sy with
    | true => need (decide (len ≤ 16777216)) (litC E new fun cs => k (.slice (some ⟨h.next, 0, none⟩) len m) ⟨h.rows.put h.next (some ⟨cs, false, .cells true⟩), h.next + 1⟩)
    | false => (match appCore h m len new false sv with | some (v, h') => k v h' | none => False)
  | .slice (some ⟨r, i, none⟩) sl e =>
    match h.rows.find r with
    | some ⟨cells, false, .cells s⟩ =>
      match sy || s with
      | true =>
        need (decide (sl + len ≤ 16777216)) (need (Nat.beq e m && Nat.blt r Tr.top) (bif bif s then false else cells.isEmpty || Nat.blt 0 sl then (need (decide (i + sl * m ≤ cells.length))
          (litC E ((cells.drop i).take (sl * m) ++ new) fun cs => k (.slice (some ⟨h.next, 0, none⟩) (sl + len) m) ⟨(h.rows.put r none).put h.next (some ⟨cs, false, .cells true⟩), h.next + 1⟩)) else br (decide (0 < sl + len ∨ cells.length = 0)) (need (decide (i + sl * m ≤ cells.length))
          (litC E ((cells.drop i).take (sl * m) ++ new) fun cs => k (.slice (some ⟨h.next, 0, none⟩) (sl + len) m) ⟨(h.rows.put r none).put h.next (some ⟨cs, false, .cells true⟩), h.next + 1⟩)) (k (.slice (some ⟨r, i, none⟩) sl e) h)))
      | false => (match appCore h m len new sy (.slice (some ⟨r, i, none⟩) sl e) with | some (v, h') => k v h' | none => False)
    | _ => False
  | _ => False
def sAppend (h : Hp) (c : Call) (ρ : Operand → Option Value) (k : Value → Hp → Prop) : Prop :=
  match c.args.toList, c.argTypes.toList with
  | [s, x], [sT, xT] =>
    match E.P.underlying sT, E.P.underlying xT, ρ s, ρ x with
    | some (.slice elem), some xd, some sv, some xv =>
      match szOf E.P elem, zeroOf E.P elem, E.P.info? elem, xd with
      | some m, some z, some i, .slice _ | some m, some z, some i, .string =>
        sSrc h.rows m xv fun len new0 sy =>
          sFrz E h.rows (!sy && goesTo h.rows sv) (tsOf E.P elem len) new0 fun new rows1 =>
          sFrzRow E rows1 sy elem sv fun rows2 =>
          need (Nat.beq z.cells.toList.length m && !Nat.beq m 0 && Nat.ble i.bytes 1048576 && Nat.blt h.next Tr.top) (need (allOne new) (sApp E ⟨rows2, h.next⟩ m len new sy sv k))
      | _, _, _, _ => (match aAppend E.P h c ρ with | some (v, h') => k v h' | none => False)
    | _, _, _, _ => False
  | _, _ => False
def sCopy (h : Hp) (c : Call) (ρ : Operand → Option Value) (k : Value → Hp → Prop) : Prop :=
  match c.args.toList, c.argTypes.toList with
  | [d, x], [dT, _] =>
    match E.P.underlying dT, ρ d, ρ x with
    | some (.slice elem), some (.slice (some ⟨r, i, none⟩) dl e), some xv =>
      match szOf E.P elem with
      | some m => sSrc h.rows m xv fun len new _ => need (Nat.beq e m) (sPutCells E h.rows r i (new.take (Nat.min len dl * m)) fun rows => k (.int .i64 (.ofNat (Nat.min len dl))) ⟨rows, h.next⟩)
      | none => False
    | _, _, _ => False
  | _, _ => False
def sMake (h : Hp) (sy : Bool) (t : TypeId) (l c : Value) (k : Value → Hp → Prop) : Prop :=
  match sy with
  | false => (match aMake E.P h false t l c with | some (v, h') => k v h' | none => False)
  | true =>
    match E.P.underlying t, l, c with
    | some (.slice elem), .int _ zl, .int _ zc =>
      match szOf E.P elem, zeroOf E.P elem, E.P.info? elem with
      | some m, some z, some i =>
        need (Nat.ble i.bytes 1048576 && Nat.beq z.cells.toList.length m && !Nat.beq m 0 && Nat.blt h.next Tr.top) (need (decide (0 ≤ zl ∧ zl ≤ zc ∧ zc ≤ 16777216))
          (match z.cells.toList with
            | [z0] => litC E (List.replicate zc.toNat z0) fun cs => k (.slice (some ⟨h.next, 0, none⟩) zl.toNat m) ⟨h.rows.put h.next (some ⟨cs, false, .cells true⟩), h.next + 1⟩
            | zs => litC E (List.replicate zc.toNat zs).flatten fun cs => k (.slice (some ⟨h.next, 0, none⟩) zl.toNat m) ⟨h.rows.put h.next (some ⟨cs, false, .cells true⟩), h.next + 1⟩))
      | _, _, _ => False
    | _, _, _ => False
def sBytes (h : Hp) (src dst : TypeId) (x : Value) (k : Value → Hp → Prop) : Prop :=
  match x with
  | .string s =>
    match E.P.underlying src, E.P.underlying dst with
    | some _, some (.slice e) =>
      match E.P.underlying e with
      | some (.int .u8) => need (Nat.blt h.next Tr.top) (br (decide (0 < s.data.toList.length))
          (litC E (s.data.toList.map fun b => .int .u8 b.toNat) fun cs => k (.slice (some ⟨h.next, 0, none⟩) s.data.toList.length 1) ⟨h.rows.put h.next (some ⟨cs, false, .cells true⟩), h.next + 1⟩)
          (k (.slice (some ⟨h.next, 0, none⟩) 0 1) ⟨h.rows.put h.next (some ⟨[], true, .cells true⟩), h.next + 1⟩))
      | _ => False
    | _, _ => False
  | x => (match aBytes E.P h src dst x with | some (v, h') => k v h' | none => False)
def sUpdate (h : Hp) (t : TypeId) (m key x : Value) (k : Tr Row → Prop) : Prop :=
  match m with
  | .map (some r) =>
    match h.rows.find r with
    | some ⟨_, false, .map true⟩ =>
      match E.P.underlying t with
      | some (.map kt et) =>
        need (keyOk E.P kt key && Nat.ble h.next Tr.top && Nat.blt r Tr.top) <|
        sFrz1 E h.rows et x fun v1 rows1 =>
          match rows1.find r with
          | some ⟨C, false, .map true⟩ => MKeys C key ∧ k (rows1.put r (some ⟨mpPut C key v1, false, .map true⟩))
          | _ => False
      | _ => False
    | _ => (match aUpdate E.P h t (.map (some r)) key x with | some rows => k rows | none => False)
  | m => (match aUpdate E.P h t m key x with | some rows => k rows | none => False)
def sDelete (rows : Tr Row) (t : TypeId) (m key : Value) (k : Tr Row → Prop) : Prop :=
  match m with
  | .map (some r) =>
    match rows.find r with
    | some ⟨C, false, .map true⟩ =>
      match E.P.underlying t with
      | some (.map kt _) => need (keyOk E.P kt key && Nat.blt r Tr.top) (MKeys C key ∧ k (rows.put r (some ⟨mpDel C key, false, .map true⟩)))
      | _ => False
    | _ => (match aDelete E.P rows t (.map (some r)) key with | some rows => k rows | none => False)
  | m => (match aDelete E.P rows t m key with | some rows => k rows | none => False)
def sE (ρ : Operand → Option Value) (h : Hp) (o : Oper) (k : Res → Hp → Prop) : Prop :=
  match o.op with
  | .store t a x =>
    match ρ a, ρ x with
    | some av, some xv => need (Nat.ble h.next Tr.top) (sStore E h.rows t av xv fun rows => k .skip ⟨rows, h.next⟩)
    | _, _ => False
  | .makeSlice t l c =>
    match ρ l, ρ c with
    | some lv, some cv => sMake E h (!(isConst l && isConst c)) t lv cv fun v h' => k (.val v) h'
    | _, _ => False
  | .call c =>
    match c.callee with
    | .builtin .append => sAppend E h c ρ fun v h' => k (.val v) h'
    | .builtin .copy => sCopy E h c ρ fun v h' => k (.val v) h'
    | .value f => (match aCall E.P ρ f c.args.toList with | some (fid, a, b, d) => k (.enter fid (a ++ b ++ d)) h | none => False)
    | .builtin .recover => k .recov h
    | .builtin .delete =>
      match c.args.toList, c.argTypes.toList with
      | [m, key], t :: _ =>
        (match ρ m, ρ key with
        | some mv, some kv => sDelete E h.rows t mv kv fun rows => k (.val (.tuple #[])) ⟨rows, h.next⟩
        | _, _ => False)
      | _, _ => False
    | _ => False
  | .defer c =>
    match c.callee with
    | .value f => (match aCall E.P ρ f c.args.toList with | some (fid, a, b, d) => k (.defer { target := .fn (.func fid) d.toArray, args := (a ++ b).toArray }) h | none => False)
    | _ => False
  | .panic x => (match ρ x with | some (.iface t v) => k (.panic (.iface t v)) h | _ => False)
  | .convert src dst x => (match ρ x with | some xv => sBytes E h src dst xv fun v h' => k (.val v) h' | none => False)
  | .binOp .quo _ x y _ =>
    match ρ x, ρ y with
    | some (.float ka a), some (.float kb b) => bif decide (ka = kb) then (match fres .quo ka a b with | some none => k (.val (.float ka (qnan ka))) h | _ => False) else False
    | _, _ => False
  | .makeMap _ none => (match aMakeMap h with | some (v, h') => k (.val v) h' | none => False)
  | .mapUpdate t m key x | .insert t m key x =>
    match ρ m, ρ key, ρ x with
    | some mv, some kv, some xv => sUpdate E h t mv kv xv fun rows => k .skip ⟨rows, h.next⟩
    | _, _, _ => False
  | .range t x => (match ρ x with | some v => (match aRange E.P h t v with | some (v, h') => k (.val v) h' | none => False) | none => False)
  | .next it s => (match ρ it with | some v => (match aNext h v s with | some (v, h') => k (.val v) h' | none => False) | none => False)
  | _ => False
def isBytes (ρ : Operand → Option Value) (rows : Tr Row) (o : Oper) : Bool :=
  match o.op with
  | .convert src dst x =>
    match ρ x with
    | some (.string _) => (match evQ E.P ρ rows o with | none => true | some _ => false)
    | some (.slice _ _ _) => bif Nat.beq src dst then (match evQ E.P ρ rows o with | none => true | some _ => false) else false
    | _ => false
  | _ => false
def isNanQ (ρ : Operand → Option Value) (o : Oper) : Bool :=
  match E.nan with
  | false => false
  | true =>
    match o.op with
    | .binOp .quo _ x y _ =>
      match ρ x, ρ y with
      | some (.float k a), some (.float k' b) => bif decide (k = k') then (match fres .quo k a b with | some none => true | _ => false) else false
      | _, _ => false
    | _ => false
def isIntQ (ρ : Operand → Option Value) (o : Oper) : Bool :=
  match E.nan with
  | false => false
  | true =>
    match o.op with
    | .binOp .quo _ x y _ =>
      match ρ x, ρ y with
      | some (.int k _), some (.int k' _) => decide (k = k')
      | _, _ => false
    | _ => false
def sDiv (ρ : Operand → Option Value) (h : Hp) (o : Oper) (k : Res → Hp → Prop) : Prop :=
  match o.op with
  | .binOp .quo _ x y _ =>
    match ρ x, ρ y with
    | some (.int ka a), some (.int _ b) => br (decide (b = 0)) (k (.panic (divV E.P)) h) (k (.val (.int ka (ka.wrap (a.tdiv b)))) h)
    | _, _ => False
  | _ => False
def sOp (ρ : Operand → Option Value) (h : Hp) (o : Oper) (k : Res → Hp → Prop) : Prop :=
  match kind o with
  | .quiet => sQ E ρ h.rows o fun v => k (.val v) h
  | .new =>
    match evA E.P ρ o with
    | some (cs, ak) => bif Nat.blt h.next Tr.top then k (.val (ak.mk h.next)) ⟨h.rows.put h.next (some ⟨cs, false, .cells false⟩), h.next + 1⟩ else False
    | none => False
  | .act => sE E ρ h o k
  | .conv => bif isBytes E ρ h.rows o then sE E ρ h o k else bif isNanQ E ρ o then sE E ρ h o k else bif isIntQ E ρ o then sDiv E ρ h o k else sQ E ρ h.rows o fun v => k (.val v) h
def sPut (fr : Fr) (dst : Option Tmp) (v : Value) (k : Fr → Prop) : Prop :=
  match dst with
  | none => k fr
  | some d => match fr with | ⟨tm, nt, df⟩ => bif Nat.blt d nt && Nat.blt d Tr.top then Tr.putK 40 tm d (some v) fun tm => k ⟨tm, nt, df⟩ else False
theorem sPut_proj (fr : Fr) (dst : Option Tmp) (v : Value) (k : Fr → Prop) : sPut fr dst v k = match dst with
    | none => k fr
    | some d => bif Nat.blt d fr.nt && Nat.blt d Tr.top then Tr.putK 40 fr.tm d (some v) fun tm => k ⟨tm, fr.nt, fr.df⟩ else False := by cases dst <;> rfl
def sLit (fr : Fr) (x : Operand) (b : Bool) (k : Fr → Prop) : Prop :=
  match x with
  | .tmp d => bif Nat.blt d Tr.top then Tr.putK 40 fr.tm d (some (.bool b)) fun tm => k ⟨tm, fr.nt, fr.df⟩ else k fr
  | _ => k fr
def sWant (ops : Array Oper) (o : Oper) (fr : Fr) (k : Fr → Bool → Prop) : Prop :=
  match o.guard with
  | none => k fr true
  | some (j, want) =>
    match ops[j]? with
    | some oj =>
      match oj.dst with
      | some d =>
        match fr.tm.find d with
        | some (.bool b) => br b (sLit fr (.tmp d) true fun fr => k fr want) (sLit fr (.tmp d) false fun fr => k fr (!want))
        | some _ => k fr false
        | none => False
      | none => k fr false
    | none => k fr false
def sSeq (call : SCall) (ops : Array Oper) : List Oper → Fr → Option FrameMode → Hp → KO → Prop
  | [], fr, u, h, K => K (.normal, fr, u, h)
  | o :: rest, fr, u, h, K =>
    sWant ops o fr fun fr w =>
      match w with
      | false => sPut fr o.dst undef fun fr => sSeq call ops rest fr u h K
      | true => sOp E (kv fr.tm) h o fun r h => nfHp h fun h =>
        match r with
        | .val v => nv E v fun v => sPut fr o.dst v fun fr => sSeq call ops rest fr u h K
        | .skip => sPut fr o.dst undef fun fr => sSeq call ops rest fr u h K
        | .enter f args => call f args h fun x =>
          match x with
          | (.ret v, h) => nfHp h fun h => nv E v fun v => sPut fr o.dst v fun fr => sSeq call ops rest fr u h K
          | (.pan c, h) => K (.panic c, fr, u, h)
        | .panic v => K (.panic [{ v, recovered := false }], fr, u, h)
        | .defer d => sPut ⟨fr.tm, fr.nt, d :: fr.df⟩ o.dst undef fun fr => sSeq call ops rest fr u h K
        | .recov =>
          match u with
          | none => False
          | some (.panicking ({ v, recovered := false, goexit := false } :: older)) => nv E v fun v => sPut fr o.dst v fun fr => sSeq call ops rest fr (some (.panicking ({ v, recovered := true } :: older))) h K
          | some m => sPut fr o.dst .nilIface fun fr => sSeq call ops rest fr (some m) h K
def lenMap (P : Program) (c : Call) : Bool := c.argTypes.toList.any fun t => match P.underlying t with | some (.map _ _) => true | _ => false
def rowless (P : Program) (o : Oper) : Bool :=
  match o.op with
  | .move _ | .assign _ | .pick _ _ _ | .nilCheck _ | .makeInterface _ _ | .fieldAddr _ _ _ | .field _ _ _ | .indexAddr _ _ _ | .index _ _ _ | .extract _ _ | .build _ _ | .unOp _ _ _ | .binOp _ _ _ _ _ => true
  | .call c => (match c.callee with | .builtin .len => !lenMap P c | .builtin .min | .builtin .max => true | _ => false)
  | _ => false
def skV (l : List Oper) (ms : List Nat) (tm : Tr Value) (vs : List Value) (i : Nat) : Operand → Option Value
  | .tmp x =>
    match wrOf l 0 x with
    | none => tm.find x
    | some j =>
      bif Nat.testBit (mk ms i) j then vs[j]?
      else bif Nat.testBit (mk ms j) i || Nat.beq j i then tm.find x else none
  | .const v => bif flat 12 v then some v else none
  | .func f => some (.func (.func f) #[] #[])
  | .global _ => none
def self : Nat → Value → Bool
  | 0, _ => false
  | _ + 1, .bool _ | _ + 1, .int _ _ | _ + 1, .float _ _ | _ + 1, .string _ | _ + 1, .pointer none | _ + 1, .pointer (some ⟨_, _, none⟩)
  | _ + 1, .map none | _ + 1, .map (some _)
  | _ + 1, .pointer (some ⟨_, _, some 0⟩) | _ + 1, .slice (some ⟨_, _, some 0⟩) _ _ | _ + 1, .slice none _ _ | _ + 1, .slice (some ⟨_, _, none⟩) _ _ | _ + 1, .nilFunc | _ + 1, .nilIface => true
  | n + 1, .agg ⟨x⟩ | n + 1, .tuple ⟨x⟩ => x.all (self n)
  | n + 1, .func _ ⟨x⟩ ⟨y⟩ => x.all (self n) && y.all (self n)
  | _, _ => false
def sdWant (l : List Oper) (ms : List Nat) (tm : Tr Value) (s : Pass) (i : Nat) (o : Oper) (k : Pass → Bool → Prop) : Prop :=
  match o.guard with
  | none => k s true
  | some (j, want) =>
    match l[j]? with
    | some oj =>
      match oj.dst with
      | some d =>
        match skV l ms tm s.vs i (.tmp d) with
        | some (.bool b) =>
          match wrOf l 0 d with
          | some j' => bif Nat.testBit (mk ms i) j' then
              br b (wrK s.vs j' [.bool true] fun vs => k ⟨vs, s.hs, s.es, s.nw⟩ want) (wrK s.vs j' [.bool false] fun vs => k ⟨vs, s.hs, s.es, s.nw⟩ (!want))
            else br b (k s want) (k s (!want))
          | none => br b (k s want) (k s (!want))
        | some .nilIface => k s false
        | some (.tuple ⟨[]⟩) => k s false
        | _ => False
      | none => k s false
    | none => k s false
def sPass (call : SCall) (l : List Oper) (ms : List Nat) (tm : Tr Value) (base : Nat) : List Oper → Nat → Pass → (Pass → Prop) → Prop
  | [], _, s, k => k s
  | o :: rest, i, s, k =>
    sdWant l ms tm s i o fun s w =>
    match w with
    | false => apK s.vs [undef] fun vs => sPass call l ms tm base rest (i + 1) ⟨vs, s.hs, s.es, s.nw⟩ k
    | true =>
      match s.hs.getLast? with
      | none => False
      | some h =>
        let q : Prop := sQ E (skV l ms tm s.vs i) (addRows h.rows base (Ev.seen ms s.es i) s.nw) o fun v => nv E v fun v => need (self 20 v) (apK s.vs [v] fun vs => sPass call l ms tm base rest (i + 1) ⟨vs, s.hs, s.es, s.nw⟩ k)
        let e : Prop :=
          need (s.es.all fun j => Nat.testBit (mk ms i) j) <|
          sE E (skV l ms tm s.vs i) ⟨addRows h.rows base (Ev.seen ms s.es i) s.nw, h.next⟩ o fun r h' => nfHp h' fun h' =>
            match r with
            | .val v => nv E v fun v => apK s.vs [v] fun vs => sPass call l ms tm base rest (i + 1) ⟨vs, s.hs ++ [h'], s.es ++ [i], s.nw⟩ k
            | .skip => apK s.vs [undef] fun vs => sPass call l ms tm base rest (i + 1) ⟨vs, s.hs ++ [h'], s.es ++ [i], s.nw⟩ k
            | .enter f args => call f args h' fun x =>
              match x with
              | (.ret v, h') => nfHp h' fun h' => nv E v fun v => apK s.vs [v] fun vs => sPass call l ms tm base rest (i + 1) ⟨vs, s.hs ++ [h'], s.es ++ [i], s.nw⟩ k
              | _ => False
            | _ => False
        match kind o with
        | .quiet => q
        | .conv => bif isBytes E (skV l ms tm s.vs i) (addRows h.rows base (Ev.seen ms s.es i) s.nw) o then
            (match silent E.P (skV l ms tm s.vs i) (addRows h.rows base (Ev.seen ms s.es i) s.nw) o with
              | some v => nv E v fun v => need (self 20 v) (apK s.vs [v] fun vs => sPass call l ms tm base rest (i + 1) ⟨vs, s.hs, s.es, s.nw⟩ k)
              | none => e) else q
        | .new =>
          match evA E.P (skV l ms tm s.vs i) o with
          | some (cs, ak) => nv E (ak.mk (base + i)) fun v => apK s.vs [v] fun vs => sPass call l ms tm base rest (i + 1) ⟨vs, s.hs, s.es, s.nw ++ [(i, cs)]⟩ k
          | none => False
        | .act => e
def sAgain (l : List Oper) (ms : List Nat) (tm : Tr Value) (base : Nat) (s : Pass) (i : Nat) (o : Oper) (v : Value) : List Hp → Nat → Prop → Prop
  | [], _, k => k
  | h :: r, n, k =>
    bif window ms s.es i n then
      bif isBytes E (skV l ms tm s.vs i) (addRows h.rows base (Ev.seen ms (s.es.take n) i) s.nw) o then
        (match silent E.P (skV l ms tm s.vs i) (addRows h.rows base (Ev.seen ms (s.es.take n) i) s.nw) o with
          | some v' => need (veq 20 v' v) (need (self 20 v) (sAgain l ms tm base s i o v r (n + 1) k))
          | none => False)
      else sQ E (skV l ms tm s.vs i) (addRows h.rows base (Ev.seen ms (s.es.take n) i) s.nw) o fun v' => bif E.clo then need (veq 20 v' v) (need (self 20 v) (sAgain l ms tm base s i o v r (n + 1) k)) else v' = v ∧ need (self 20 v) (sAgain l ms tm base s i o v r (n + 1) k)
    else sAgain l ms tm base s i o v r (n + 1) k
def sLook2 (l : List Oper) (ms : List Nat) (tm : Tr Value) (base : Nat) (s : Pass) : List Oper → Nat → Prop → Prop
  | [], _, k => k
  | o :: r, i, k =>
    sdWant l ms tm s i o fun s' w =>
    match w with
    | true =>
      bif s'.es.contains i || s'.nw.any (fun p => Nat.beq p.1 i) || rowless E.P o then sLook2 l ms tm base s' r (i + 1) k
      else match s'.vs[i]? with
        | some v => sAgain E l ms tm base s' i o v s'.hs 0 (sLook2 l ms tm base s' r (i + 1) k)
        | none => False
    | false => sLook2 l ms tm base s' r (i + 1) k
def sPuts : List Oper → List Value → Fr → (Fr → Prop) → Prop
  | o :: l, v :: vs, fr, k => sPut fr o.dst v fun fr => sPuts l vs fr k
  | _, _, fr, k => k fr
def msK : List Nat → (List Nat → Prop) → Prop
  | [], k => k []
  | 0 :: r, k => msK r fun l => k (0 :: l)
  | (n + 1) :: r, k => msK r fun l => k (Nat.succ n :: l)
theorem msK_eq : ∀ (l : List Nat) (k : List Nat → Prop), msK l k = k l
  | [], _ => rfl
  | 0 :: r, k => by rw [msK, msK_eq r]
  | (n + 1) :: r, k => by rw [msK, msK_eq r]
def unpS (call : SCall) : SCall := fun f args h k => call f args h fun x =>
  match x with
  | (.ret v, h') => need (noP v) (k (.ret v, h'))
  | (.pan [{ v, recovered := false, goexit := false }], h') => k (.ret (markP v), h')
  | _ => False
def sDraw (call : SCall) (ops : Array Oper) (fr : Fr) (h : Hp) (k : Ex → Fr → Hp → Prop) : Prop :=
  need (edgesBack ops.toList 0 && dstsOnce ops.toList ops.toList 0 && Nat.ble (h.next + ops.toList.length) Tr.top) <|
    msK (masks ops.toList) fun ms =>
    nfHp ⟨h.rows, h.next + ops.toList.length⟩ fun h0 =>
    sPass E (unpS call) ops.toList ms fr.tm h.next ops.toList 0 ⟨[], [h0], [], []⟩ fun s =>
      sLook2 E ops.toList ms fr.tm h.next s ops.toList 0 <|
      need (noneAt ms h.next ops.toList.length s s.hs 0) <|
        match s.hs.getLast?, drawEnd ops s with
        | some hm, some e => sPuts ops.toList s.vs fr fun _ => sPuts (drawn e ops.toList) (s.vs.take (drawn e ops.toList).length) fr fun fr' => nfHp ⟨addRows hm.rows h.next (fun j => !Nat.testBit (absorbed ms s.es) j) s.nw, hm.next⟩ fun h' => k e fr' h'
        | _, _ => False
def sRes (rows : Tr Row) (tm : Tr Value) : List ResultVar → (List Value → Prop) → Prop
  | [], k => k []
  | .tmp t :: r, k => (match tm.find t with | some v => nv E v fun v => sRes rows tm r fun l => k (v :: l) | none => False)
  | .cell c t :: r, k => (match tm.find c with | some a => sLoad E rows t a fun v => nv E v fun v => sRes rows tm r fun l => k (v :: l) | none => False)
def sResults (rows : Tr Row) (tm : Tr Value) (fn : Func) (k : Value → Prop) : Prop :=
  sRes E rows tm fn.results.toList fun l => match l with
    | [v] => k v
    | l => k (.tuple l.toArray)
def noGo (l : List PanicEntry) : Bool := l.all fun e => !e.goexit
def sSettle (u : FrameMode) (k : FrameMode → Prop) : Prop :=
  match E.deep with
  | false => k (settle u)
  | true =>
    match u with
    | .panicking ({ recovered := true, .. } :: older) => noGo older = true ∧ k .returning
    | m => k m
def sLeaves (rec : SRec) (fn : Func) (tm : Tr Value) : List Deferred → FrameMode → Hp → (Ev.End × Hp → Prop) → Prop
  | [], .returning, h, k => sResults E h.rows tm fn fun v => k (.ret v, h)
  | [], .panicking c, h, k => k (.pan c, h)
  | [], .run, _, _ => False
  | d :: ds, u, h, k =>
    match d.target, u with
    | _, .run => False
    | .fn (.func f) cap, u =>
      need (okFn E.P f) <|
        match E.P.funcs[f]? with
        | some fn' =>
          match fn'.body with
          | some c =>
            need (Nat.ble (d.args.toList ++ cap.toList).length fn'.ntmps && Nat.ble fn'.ntmps 1000000) <|
              rec f [] false c ⟨ofL (d.args.toList ++ cap.toList) 0 .leaf, fn'.ntmps, []⟩ (some u) h fun x =>
                match x with
                | (.normal, ⟨tm', _, []⟩, some u', h') => sResults E h'.rows tm' fn' fun _ => sSettle E u' fun m => sLeaves rec fn tm ds m h' k
                | (.ret, ⟨tm', _, []⟩, some u', h') => sResults E h'.rows tm' fn' fun _ => sSettle E u' fun m => sLeaves rec fn tm ds m h' k
                | (.panic ch, ⟨_, _, []⟩, some u', h') => sLeaves rec fn tm ds (raised u' ch) h' k
                | _ => False
          | none => False
        | none => False
    | _, _ => False
def reps (t : Nat) (s : ByteArray) (n : Nat) : List PanicEntry := List.replicate n { v := .iface t (.string s), recovered := true }
def endV : Value → Ev.End
  | .tuple ⟨[.nilFunc, .bool c, x, .int .i64 t, .int .i64 a, .int .i64 b]⟩ => cond c (.ret x) (.pan [{ v := .iface t.toNat (.agg ⟨[.int .i64 a, .int .i64 b]⟩), recovered := false }])
  | .tuple ⟨[.nilFunc, .bool c, x, .int .i64 t, .int .i64 a, .int .i64 b, .bool d, .int .i64 t2, .string s, .int .i64 n]⟩ => cond c (.ret x) (cond d (.pan ({ v := .iface t2.toNat (.string s), recovered := false } :: reps t2.toNat s n.toNat)) (.pan [{ v := .iface t.toNat (.agg ⟨[.int .i64 a, .int .i64 b]⟩), recovered := false }]))
  | v => .ret v
def noMark : Value → Bool
  | .tuple ⟨.nilFunc :: _⟩ => false
  | _ => true
theorem noMark_end {v : Value} (h : noMark v = true) : endV v = .ret v := by
  unfold endV
  split
  · simp [noMark] at h
  · simp [noMark] at h
  · rfl
def sEnd (v : Value) (k : Ev.End → Prop) : Prop :=
  match v with
  | .tuple ⟨[.nilFunc, .bool c, x, .int .i64 t, .int .i64 a, .int .i64 b]⟩ => br c (k (.ret x)) (k (.pan [{ v := .iface t.toNat (.agg ⟨[.int .i64 a, .int .i64 b]⟩), recovered := false }]))
  | .tuple ⟨[.nilFunc, .bool c, x, .int .i64 t, .int .i64 a, .int .i64 b, .bool d, .int .i64 t2, .string s, .int .i64 n]⟩ => br c (k (.ret x)) (br d (k (.pan ({ v := .iface t2.toNat (.string s), recovered := false } :: reps t2.toNat s n.toNat))) (k (.pan [{ v := .iface t.toNat (.agg ⟨[.int .i64 a, .int .i64 b]⟩), recovered := false }])))
  | v => k (.ret v)
def sCallF (rec : SRec) : SCall := fun f args h k =>
  match E.O f args h with
  | some x => k x
  | none =>
  match E.T f args h with
  | some (p, v, h') => p ∧ sEnd v fun e => k (e, h')
  | none =>
    match E.P.funcs[f]? with
    | some fn =>
      match fn.body with
      | some c =>
        need (Nat.ble args.length fn.ntmps && Nat.ble fn.ntmps 1000000) <|
          rec f [] false c ⟨ofL args 0 .leaf, fn.ntmps, []⟩ none h fun x =>
            match x with
            | (.normal, ⟨tm, _, df⟩, _, h') => sLeaves E rec fn tm df .returning h' k
            | (.ret, ⟨tm, _, df⟩, _, h') => sLeaves E rec fn tm df .returning h' k
            | (.panic ch, ⟨tm, _, df⟩, _, h') => sLeaves E rec fn tm df (.panicking ch) h' k
            | _ => False
      | none => False
    | none => False
def sRound (rec : SRec) (f : FuncId) (p : List Nat) (c : Code) (fr : Fr) (u : Option FrameMode) (h : Hp) (K : KO) : Prop :=
  rec f (0 :: p) false c fr u h fun x =>
    match x with
    | (.normal, fr', u', h') => rec f p true c fr' u' h' K
    | r => K r
def sStep (rec : SRec) : SRec
  | f, p, true, c, fr, u, h, K => sRound rec f p c fr u h K
  | f, p, false, c, fr, u, h, K =>
    match E.L f p with
    | some spec => spec fr u h K
    | none =>
      match c with
      | .skip => K (.normal, fr, u, h)
      | .ret => K (.ret, fr, u, h)
      | .exit id => K (.exit id, fr, u, h)
      | .seq x y => rec f (0 :: p) false x fr u h fun r =>
        match r with
        | (.normal, fr', u', h') => rec f (1 :: p) false y fr' u' h' K
        | r => K r
      | .cond c x y =>
        match kv fr.tm c with
        | some (.bool b) => br b (sLit fr c true fun fr => rec f (0 :: p) false x fr u h K) (sLit fr c false fun fr => rec f (1 :: p) false y fr u h K)
        | _ => False
      | .block id c => rec f (0 :: p) false c fr u h fun r =>
        match r with
        | (.exit j, fr', u', h') => bif Nat.beq j id then K (.normal, fr', u', h') else K (.exit j, fr', u', h')
        | r => K r
      | .loop c => sRound rec f p c fr u h K
      | .region _ ops false => sSeq E (sCallF E rec) ops ops.toList fr u h K
      | .region _ ops true => sDraw E (sCallF E rec) ops fr h fun e fr' h' => K (e, fr', u, h')
      | _ => False
def sev : Nat → SRec
  | 0 => fun _ _ _ _ _ _ _ _ => False
  | n + 1 => sStep E (sev n)
end
end
end Go.Sy
namespace Go.Sy
noncomputable section
open Go.Ev Go.RowKit
def RLe (ρ ρ' : Operand → Option Value) : Prop := ∀ x v, ρ x = some v → ρ' x = some v
section
variable {P : Program} {ρ ρ' : Operand → Option Value}
theorem flatAll_get (hl : RLe ρ ρ') : ∀ (l : List Operand), flatAll ρ l = true → flatAll ρ' l = true ∧ ∀ x ∈ l, ρ' x = ρ x := by
  intro l
  induction l with
  | nil => intro _; exact ⟨rfl, fun x hx => by simp at hx⟩
  | cons a r ih =>
    intro h
    simp only [flatAll, Bool.and_eq_true] at h
    cases ha : ρ a with
    | none => rw [ha] at h; simp at h
    | some v =>
      have h' := hl _ _ ha
      obtain ⟨i1, i2⟩ := ih h.2
      refine ⟨by simp only [flatAll, h', i1]; rw [ha] at h; simpa using h.1, fun x hx => ?_⟩
      rcases List.mem_cons.1 hx with rfl | hx
      · rw [h', ha]
      · exact i2 x hx
theorem evPure_eq {o : Oper} (hsel : ∀ a b, o.op ≠ .select a b) : evPure P ρ o = bif flatAll ρ o.op.operands.toList then
      (match pureRun P (execOp (fun x => (ρ x).getD undef) o) with
      | some (.value v) => bif flat 12 v then some v else none
      | _ => none)
    else none := by
  unfold evPure
  split
  · rename_i a b e; exact absurd e (hsel a b)
  · rfl
theorem evPure_mono (hl : RLe ρ ρ') {o : Oper} {v : Value} (h : evPure P ρ o = some v) : evPure P ρ' o = some v := by
  have hsel : ∀ a b, o.op ≠ .select a b := by
    intro a b e
    unfold evPure at h; rw [e] at h; simp at h
  rw [evPure_eq hsel] at h ⊢
  cases hf : flatAll ρ o.op.operands.toList with
  | false => simp [hf] at h
  | true =>
    obtain ⟨h1, h2⟩ := flatAll_get hl _ hf
    have hc : execOp (fun x => (ρ x).getD undef) o = execOp (fun x => (ρ' x).getD undef) o :=
      execOp_congr o (fun cs b e => hsel cs b e) fun x hx => by rw [h2 x (by simpa using hx)]
    rw [h1, ← hc]
    rw [hf] at h
    exact h
theorem evPure_known {o : Oper} {v : Value} (h : evPure P ρ o = some v) : ∀ x ∈ o.op.operands, ∃ a, ρ x = some a := by
  unfold evPure at h
  split at h
  · simp at h
  · cases hf : flatAll ρ o.op.operands.toList with
    | false => simp [hf] at h
    | true =>
      have aux : ∀ (l : List Operand), flatAll ρ l = true → ∀ x ∈ l, ∃ a, ρ x = some a := by
        intro l
        induction l with
        | nil => intro _ x hx; simp at hx
        | cons a r ih =>
          intro h x hx
          simp only [flatAll, Bool.and_eq_true] at h
          rcases List.mem_cons.1 hx with rfl | hx
          · cases ha : ρ x with
            | none => rw [ha] at h; simp at h
            | some v => exact ⟨v, rfl⟩
          · exact ih h.2 x hx
      intro x hx
      exact aux _ hf x (by simpa using hx)
theorem aParts_mono (hl : RLe ρ ρ') : ∀ (l : List (Nat × Operand)) (r : List (Nat × Value)), aParts ρ l = some r → aParts ρ' l = some r := by
  intro l
  induction l with
  | nil => intro r h; exact h
  | cons a l ih =>
    intro r h
    obtain ⟨i, x⟩ := a
    simp only [aParts] at h ⊢
    cases hx : ρ x with
    | none => rw [hx] at h; simp at h
    | some v =>
      cases hr : aParts ρ l with
      | none => rw [hx, hr] at h; simp at h
      | some r' => rw [hx, hr] at h; rw [hl _ _ hx, ih _ hr]; exact h
theorem aArgs_mono (hl : RLe ρ ρ') : ∀ (l : List Operand) (r : List Value), aArgs ρ l = some r → aArgs ρ' l = some r := by
  intro l
  induction l with
  | nil => intro r h; exact h
  | cons x l ih =>
    intro r h
    simp only [aArgs] at h ⊢
    cases hx : ρ x with
    | none => rw [hx] at h; simp at h
    | some v =>
      cases hr : aArgs ρ l with
      | none => rw [hx, hr] at h; simp at h
      | some r' => rw [hx, hr] at h; rw [hl _ _ hx, ih _ hr]; exact h
theorem opt_mono (hl : RLe ρ ρ') {x : Option Operand} {r : Option Value} (h : opt ρ x = some r) : opt ρ' x = some r := by
  cases x with
  | none => exact h
  | some x =>
    simp only [opt, Option.map_eq_some_iff] at h ⊢
    obtain ⟨a, h1, h2⟩ := h
    exact ⟨a, hl _ _ h1, h2⟩
theorem aBuild_mono (hl : RLe ρ ρ') {t : TypeId} {ps : Array (Nat × Operand)} {v : Value} (h : aBuild P ρ t ps = some v) : aBuild P ρ' t ps = some v := by
  unfold aBuild at h ⊢
  cases hp : aParts ρ ps.toList with
  | none => rw [hp] at h; cases hz : zeroOf P t <;> simp [hz] at h
  | some l => rw [hp] at h; rw [aParts_mono hl _ _ hp]; exact h
theorem evA_mono (hl : RLe ρ ρ') {o : Oper} {v : List Value × AK} (h : evA P ρ o = some v) : evA P ρ' o = some v := by
  unfold evA at h ⊢
  split at h
  · exact h
  · rename_i x _
    simp only [Option.map_eq_some_iff] at h ⊢
    obtain ⟨a, h1, h2⟩ := h
    exact ⟨a, hl _ _ h1, h2⟩
  · rename_i t len parts _
    split at h
    · rename_i elem hu
      cases hp : aParts ρ parts.toList with
      | none => rw [hp] at h; cases hz : zeroOf P elem <;> cases hs : szOf P elem <;> simp [hz, hs] at h
      | some l => rw [hp] at h; rw [aParts_mono hl _ _ hp]; exact h
    · simp at h
  · simp at h
theorem evLenM_mono (hl : RLe ρ ρ') {rows : Tr Row} {c : Call} {v : Value} (h : evLenM P ρ rows c = some v) : evLen P ρ' c = none ∧ evLenM P ρ' rows c = some v := by
  unfold evLenM at h
  split at h
  · rename_i x t ha ht
    split at h
    · rename_i m kt vt hx hd
      have hx' := hl _ _ hx
      refine ⟨?_, ?_⟩
      · unfold evLen
        rw [ha, ht]
        simp only [hx', hd]
      · unfold evLenM
        rw [ha, ht]
        simp only [hx', hd]
        exact h
    · simp at h
  · simp at h
theorem evLen_mono (hl : RLe ρ ρ') {c : Call} {v : Value} (h : evLen P ρ c = some v) : evLen P ρ' c = some v := by
  unfold evLen at h ⊢
  split at h
  · rename_i x t e1 e2
    cases hx : ρ x with
    | none => rw [hx] at h; cases P.underlying t <;> simp at h
    | some a => rw [hx] at h; rw [hl _ _ hx]; exact h
  · simp at h
theorem aCall_mono (hl : RLe ρ ρ') {f : Operand} {args : List Operand} {r : FuncId × List Value × List Value × List Value} (h : aCall P ρ f args = some r) : aCall P ρ' f args = some r := by
  unfold aCall at h ⊢
  cases hf : ρ f with
  | none => rw [hf] at h; simp at h
  | some a =>
    cases hr : aArgs ρ args with
    | none => rw [hf, hr] at h; cases a <;> simp at h
    | some l => rw [hf, hr] at h; rw [hl _ _ hf, aArgs_mono hl _ _ hr]; exact h
theorem evBin_mono (hl : RLe ρ ρ') {o : Oper} {op : BinOp} {t t' : TypeId} {x y : Operand} (ho : o.op = .binOp op t x y t') {v : Value} (h : evBin P ρ o op t x y = some v) : evBin P ρ' o op t x y = some v := by
  have known : (∃ a, ρ x = some a) ∧ ∃ b, ρ y = some b := by
    cases hx : ρ x with
    | some a =>
      cases hy : ρ y with
      | some b => exact ⟨⟨a, rfl⟩, b, rfl⟩
      | none =>
        unfold evBin at h
        rw [hx, hy] at h
        have h' : evPure P ρ o = some v := by cases a <;> exact h
        have := evPure_known h' y (by rw [ho]; simp [Op.operands])
        rw [hy] at this; simp at this
    | none =>
      unfold evBin at h
      rw [hx] at h
      have h' : evPure P ρ o = some v := h
      have := evPure_known h' x (by rw [ho]; simp [Op.operands])
      rw [hx] at this; simp at this
  obtain ⟨⟨a, hx⟩, b, hy⟩ := known
  unfold evBin at h ⊢
  rw [hx, hy] at h
  rw [hl _ _ hx, hl _ _ hy]
  revert h
  split
  · rename_i k1 a1 k2 b1 _ _
    cases hk : decide (k1 = k2) with
    | true =>
      simp only [cond_true]
      split
      · exact id
      · exact fun h => evPure_mono hl h
    | false => simp only [cond_false]; exact fun h => evPure_mono hl h
  all_goals first | exact id | exact fun h => evPure_mono hl h
theorem evConv_mono (hl : RLe ρ ρ') {rows : Tr Row} {o : Oper} {src dst : TypeId} {x : Operand} (ho : o.op = .convert src dst x) {v : Value} (h : evConv P ρ rows o src dst x = some v) : evConv P ρ' rows o src dst x = some v := by
  cases hx : ρ x with
  | none =>
    unfold evConv at h
    rw [hx] at h
    have := evPure_known (show evPure P ρ o = some v from h) x (by rw [ho]; simp [Op.operands])
    rw [hx] at this; simp at this
  | some a =>
    unfold evConv at h ⊢
    rw [hx] at h
    rw [hl _ _ hx]
    revert h
    split
    · split
      · exact id
      · exact fun h => evPure_mono hl h
    · exact id
    · exact fun h => evPure_mono hl h
theorem evQ_rowless {o : Oper} (ho : rowless P o = true) (rows rows' : Tr Row) : evQ P ρ rows o = evQ P ρ rows' o := by
  unfold rowless at ho
  unfold evQ
  cases hop : o.op <;> rw [hop] at ho <;> simp only at ho ⊢ <;> try (simp at ho; done)
  rename_i c
  obtain ⟨cl, as, ts⟩ := c
  cases cl <;> first | (simp at ho; done) | skip
  rename_i b
  cases b <;> first | (simp at ho; done) | rfl | skip
  simp only [Bool.not_eq_true'] at ho
  have none' : ∀ R, evLenM P ρ R ⟨.builtin .len, as, ts⟩ = none := by
    intro R
    unfold evLenM
    split
    · rename_i x t _ ht
      split
      · rename_i m kt vt _ hd
        simp only at ht
        simp [lenMap, ht, hd] at ho
      · rfl
    · rfl
  simp only [none']
theorem evQ_mono1 (hl : RLe ρ ρ') {rows : Tr Row} {o : Oper} (hr : rowless P o = true) {v : Value} (h : evQ P ρ rows o = some v) : evQ P ρ' rows o = some v := by
  unfold rowless at hr
  have one : ∀ (x : Operand) (f : Value → Option Value), (match ρ x with | some v => f v | none => none) = some v → (match ρ' x with | some v => f v | none => none) = some v := by
    intro x f h
    cases hx : ρ x with
    | none => rw [hx] at h; simp at h
    | some a => rw [hx] at h; rw [hl _ _ hx]; exact h
  have two : ∀ (x y : Operand) (f : Value → Value → Option Value), (match ρ x, ρ y with | some a, some b => f a b | _, _ => none) = some v → (match ρ' x, ρ' y with | some a, some b => f a b | _, _ => none) = some v := by
    intro x y f h
    cases hx : ρ x with
    | none => rw [hx] at h; simp at h
    | some a =>
      cases hy : ρ y with
      | none => rw [hx, hy] at h; simp at h
      | some b => rw [hx, hy] at h; rw [hl _ _ hx, hl _ _ hy]; exact h
  split at hr
  · rename_i x e; unfold evQ at h ⊢; rw [e] at h ⊢; exact hl _ _ h
  · rename_i x e; unfold evQ at h ⊢; rw [e] at h ⊢; exact hl _ _ h
  · rename_i c a b e; unfold evQ at h ⊢; rw [e] at h ⊢
    simp only at h ⊢
    cases hc : ρ c with
    | none => rw [hc] at h; simp at h
    | some w => rw [hc] at h; rw [hl _ _ hc]; revert h; split <;> first | exact hl _ _ | exact fun h => by simp at h
  · rename_i x e; unfold evQ at h ⊢; rw [e] at h ⊢
    simp only at h ⊢
    cases hx : ρ x with
    | none => rw [hx] at h; simp at h
    | some a => rw [hx] at h; rw [hl _ _ hx]; exact h
  · rename_i t x e; unfold evQ at h ⊢; rw [e] at h ⊢; exact one x _ h
  · rename_i t x f e; unfold evQ at h ⊢; rw [e] at h ⊢; exact one x _ h
  · rename_i t x f e; unfold evQ at h ⊢; rw [e] at h ⊢; exact one x _ h
  · rename_i t x i e; unfold evQ at h ⊢; rw [e] at h ⊢; exact two x i _ h
  · rename_i t x i e; unfold evQ at h ⊢; rw [e] at h ⊢; exact two x i _ h
  · rename_i x i e; unfold evQ at h ⊢; rw [e] at h ⊢; exact one x _ h
  · rename_i t ps e; unfold evQ at h ⊢; rw [e] at h ⊢; exact aBuild_mono hl h
  · rename_i op t x e; unfold evQ at h ⊢; rw [e] at h ⊢; exact evPure_mono hl h
  · rename_i op t x y t' e; unfold evQ at h ⊢; rw [e] at h ⊢; exact evBin_mono hl e h
  · rename_i c e
    unfold evQ at h ⊢; rw [e] at h ⊢
    obtain ⟨cl, as, ts⟩ := c
    split at hr
    · rename_i hc; cases hc
      simp only at h ⊢
      cases he : evLen P ρ ⟨.builtin .len, as, ts⟩ with
      | some v0 => rw [he] at h; rw [evLen_mono hl he]; exact h
      | none =>
        rw [he] at h
        obtain ⟨m1, m2⟩ := evLenM_mono hl h
        rw [m1]; exact m2
    · rename_i hc; cases hc; exact evPure_mono hl h
    · rename_i hc; cases hc; exact evPure_mono hl h
    · simp at hr
  · simp at hr
end
def CLe (c c' : CallF) : Prop := ∀ f a h r, c f a h = some r → c' f a h = some r
def RecLe (r r' : Rec) : Prop := ∀ it c fr u h x, r it c fr u h = some x → r' it c fr u h = some x
section
variable {P : Program}
theorem putFr_def {β : Type} (fr : Fr) (dst : Option Tmp) (v : Value) (k : Fr → Option β) : putFr fr dst v k = match putFr fr dst v some with | some fr' => k fr' | none => none := by
  simp only [putFr_proj]
  split
  · rfl
  · cases hc : (Nat.blt _ fr.nt && Nat.blt _ Tr.top) with
    | false => rfl
    | true => simp only [cond_true]; rename_i _ d; rw [Tr.putK_eq 40 fr.tm d (some v) (fun tm => some (Fr.mk tm fr.nt fr.df)), Tr.putK_eq]
theorem putFr_mono {β : Type} {fr : Fr} {dst : Option Tmp} {v : Value} {k k' : Fr → Option β} {r : β} (hk : ∀ fr' r, k fr' = some r → k' fr' = some r) (h : putFr fr dst v k = some r) : putFr fr dst v k' = some r := by
  rw [putFr_def] at h ⊢
  cases hp : putFr fr dst v some with
  | none => rw [hp] at h; simp at h
  | some fr' => rw [hp] at h; exact hk _ _ h
theorem evSeq_mono {c c' : CallF} (hc : CLe c c') (ops : Array Oper) : ∀ (l : List Oper) (fr : Fr) (u : Option FrameMode) (h : Hp) (x : Out4), evSeq P c ops l fr u h = some x → evSeq P c' ops l fr u h = some x := by
  intro l
  induction l with
  | nil => intro fr u h x he; exact he
  | cons o rest ih =>
    intro fr u h x he
    simp only [evSeq] at he ⊢
    revert he
    split
    · exact putFr_mono fun fr' r hr => ih _ _ _ _ hr
    · split
      · exact id
      · rename_i r h' _
        rw [nfHp_eq, nfHp_eq]
        cases r with
        | val v => simp only [nfK_eq]; exact putFr_mono fun fr' r hr => ih _ _ _ _ hr
        | skip => exact putFr_mono fun fr' r hr => ih _ _ _ _ hr
        | defer d => exact putFr_mono fun fr' r hr => ih _ _ _ _ hr
        | panic v => exact id
        | enter f args =>
          simp only
          cases hcall : c f args h' with
          | none => simp
          | some y =>
            rw [hc _ _ _ _ hcall]
            obtain ⟨e, h2⟩ := y
            cases e with
            | ret v => simp only [nfHp_eq, nfK_eq]; exact putFr_mono fun fr' r hr => ih _ _ _ _ hr
            | pan ch => exact id
        | recov =>
          simp only
          split
          · exact id
          · exact putFr_mono fun fr' r hr => ih _ _ _ _ hr
          · exact putFr_mono fun fr' r hr => ih _ _ _ _ hr
theorem passE_mono {c c' : CallF} (hc : CLe c c') {x : Option (Res × Hp)} {y : Value × Hp} (h : passE c x = some y) : passE c' x = some y := by
  unfold passE at h ⊢
  split at h
  · exact h
  · exact h
  · rename_i f args h0
    rw [nfHp_eq] at h
    rw [nfHp_eq]
    split at h
    · rename_i v h1 hcall; rw [hc _ _ _ _ hcall]; exact h
    · simp at h
  · simp at h
theorem pass_mono {c c' : CallF} (hc : CLe c c') (l : List Oper) (ms : List Nat) (tm : Tr Value) (base : Nat) : ∀ (r : List Oper) (i : Nat) (s s' : Pass), pass P c l ms tm base r i s = some s' → pass P c' l ms tm base r i s = some s' := by
  intro r
  induction r with
  | nil => intro i s s' h; exact h
  | cons o rest ih =>
    intro i s s' h
    simp only [pass] at h ⊢
    revert h
    split
    · exact id
    · exact ih _ _ _
    · split
      · exact id
      · rename_i hp _
        have q : ∀ s', (match evS P (dV l ms tm s.vs i) (addRows hp.rows base (Ev.seen ms s.es i) s.nw) o with
            | some v => nfK v fun v => pass P c l ms tm base rest (i + 1) ⟨s.vs ++ [v], s.hs, s.es, s.nw⟩ | none => none) = some s' →
            (match evS P (dV l ms tm s.vs i) (addRows hp.rows base (Ev.seen ms s.es i) s.nw) o with
            | some v => nfK v fun v => pass P c' l ms tm base rest (i + 1) ⟨s.vs ++ [v], s.hs, s.es, s.nw⟩ | none => none) = some s' := by
          intro s'
          split
          · rw [nfK_eq, nfK_eq]; exact ih _ _ _
          · exact id
        have e : ∀ s', (bif s.es.all fun j => Nat.testBit (mk ms i) j then
              match passE c (evE P (dV l ms tm s.vs i) ⟨addRows hp.rows base (Ev.seen ms s.es i) s.nw, hp.next⟩ o) with
              | some (v, h') => nfHp h' fun h' => nfK v fun v => pass P c l ms tm base rest (i + 1) ⟨s.vs ++ [v], s.hs ++ [h'], s.es ++ [i], s.nw⟩
              | none => none
            else none) = some s' → (bif s.es.all fun j => Nat.testBit (mk ms i) j then
              match passE c' (evE P (dV l ms tm s.vs i) ⟨addRows hp.rows base (Ev.seen ms s.es i) s.nw, hp.next⟩ o) with
              | some (v, h') => nfHp h' fun h' => nfK v fun v => pass P c' l ms tm base rest (i + 1) ⟨s.vs ++ [v], s.hs ++ [h'], s.es ++ [i], s.nw⟩
              | none => none
            else none) = some s' := by
          intro s' h
          cases ha : s.es.all fun j => Nat.testBit (mk ms i) j with
          | false => rw [ha] at h; simp at h
          | true =>
            rw [ha] at h
            simp only [cond_true] at h ⊢
            split at h
            · rename_i v h' hp'
              rw [passE_mono hc hp']
              simp only [nfHp_eq, nfK_eq] at h ⊢
              exact ih _ _ _ h
            · simp at h
        cases hk : kind o with
        | quiet => exact q s'
        | act => exact e s'
        | new =>
          simp only
          split
          · exact ih _ _ _
          · exact id
        | conv =>
          simp only
          split
          · rename_i v hv
            have := q s'
            rw [hv] at this
            exact this
          · exact e s'
theorem unp_mono {c c' : CallF} (hc : CLe c c') : CLe (unp c) (unp c') := by
  intro f a h r he
  unfold unp at he ⊢
  split at he
  · rename_i v h' hx; rw [hc _ _ _ _ hx]; exact he
  · rename_i v h' hx; rw [hc _ _ _ _ hx]; exact he
  · simp at he
theorem evDraw_mono {c c' : CallF} (hc : CLe c c') {ops : Array Oper} {fr : Fr} {h : Hp} {x : Ex × Fr × Hp} (he : evDraw P c ops fr h = some x) : evDraw P c' ops fr h = some x := by
  unfold evDraw at he ⊢
  cases hb : (edgesBack ops.toList 0 && dstsOnce ops.toList ops.toList 0 && Nat.ble (h.next + ops.toList.length) Tr.top) with
  | false => rw [hb] at he; simp at he
  | true =>
    rw [hb] at he
    simp only [cond_true] at he ⊢
    split at he
    · rename_i s hs; rw [pass_mono (unp_mono hc) _ _ _ _ _ _ _ _ hs]; exact he
    · simp at he
theorem leaves_mono {r r' : Rec} (hr : RecLe r r') (fn : Func) (tm : Tr Value) : ∀ (ds : List Deferred) (m : FrameMode) (h : Hp) (x : Ev.End × Hp), leaves P r fn tm ds m h = some x → leaves P r' fn tm ds m h = some x := by
  intro ds
  induction ds with
  | nil => intro m h x he; cases m <;> exact he
  | cons d ds ih =>
    intro m h x he
    simp only [leaves] at he ⊢
    revert he
    split
    · exact id
    · rename_i u _ f cap _ _
      cases hok : okFn P f with
      | false => simp
      | true =>
        simp only [cond_true]
        cases hfn : P.funcs[f]? with
        | none => exact id
        | some fn' =>
          simp only
          cases hcb : fn'.body with
          | none => exact id
          | some c =>
            simp only
            cases hb : (Nat.ble (d.args.toList ++ cap.toList).length fn'.ntmps && Nat.ble fn'.ntmps 1000000) with
            | false => simp
            | true =>
              simp only [cond_true]
              intro he
              split at he
              · rename_i hx; rw [hr _ _ _ _ _ _ hx]; simp only at he ⊢; revert he; split <;> first | exact ih _ _ _ | exact id
              · rename_i hx; rw [hr _ _ _ _ _ _ hx]; simp only at he ⊢; revert he; split <;> first | exact ih _ _ _ | exact id
              · rename_i hx; rw [hr _ _ _ _ _ _ hx]; simp only; exact ih _ _ _ he
              · simp at he
    · exact id
theorem callF_mono {r r' : Rec} (hr : RecLe r r') : CLe (callF P r) (callF P r') := by
  intro f a h x he
  unfold callF at he ⊢
  revert he
  split
  · rename_i fn _
    split
    · rename_i c _
      cases hb : (Nat.ble a.length fn.ntmps && Nat.ble fn.ntmps 1000000) with
      | false => simp
      | true =>
        simp only [cond_true]
        intro he
        split at he
        · rename_i hx; rw [hr _ _ _ _ _ _ hx]; exact leaves_mono hr _ _ _ _ _ _ he
        · rename_i hx; rw [hr _ _ _ _ _ _ hx]; exact leaves_mono hr _ _ _ _ _ _ he
        · rename_i hx; rw [hr _ _ _ _ _ _ hx]; exact leaves_mono hr _ _ _ _ _ _ he
        · simp at he
    · exact id
  · exact id
theorem callO_mono (o : CallF) {r r' : Rec} (hr : RecLe r r') : CLe (callO P o r) (callO P o r') := by
  intro f a h x he
  unfold callO at he ⊢
  split at he
  · exact he
  · exact callF_mono hr _ _ _ _ he
theorem round_mono {r r' : Rec} (hr : RecLe r r') {c : Code} {fr : Fr} {u : Option FrameMode} {h : Hp} {x : Out4} (he : round r c fr u h = some x) : round r' c fr u h = some x := by
  unfold round at he ⊢
  cases h1 : r false c fr u h with
  | none => rw [h1] at he; simp at he
  | some y =>
    rw [h1] at he
    rw [hr _ _ _ _ _ _ h1]
    obtain ⟨e, fr', u', h'⟩ := y
    cases e <;> first | exact he | exact hr _ _ _ _ _ _ he
theorem evStep_mono (o : CallF) {r r' : Rec} (hr : RecLe r r') : RecLe (evStep P o r) (evStep P o r') := by
  intro it c fr u h x he
  cases it with
  | true => exact round_mono hr he
  | false =>
    cases c with
    | skip => exact he
    | ret => exact he
    | exit => exact he
    | loop c => exact round_mono hr he
    | seq a b =>
      simp only [evStep] at he ⊢
      cases h1 : r false a fr u h with
      | none => rw [h1] at he; simp at he
      | some y =>
        rw [h1] at he
        rw [hr _ _ _ _ _ _ h1]
        obtain ⟨e, fr', u', h'⟩ := y
        cases e <;> first | exact he | exact hr _ _ _ _ _ _ he
    | cond c a b =>
      simp only [evStep] at he ⊢
      revert he
      split
      · exact hr _ _ _ _ _ _
      · exact hr _ _ _ _ _ _
      · exact id
    | block id c =>
      simp only [evStep] at he ⊢
      cases h1 : r false c fr u h with
      | none => rw [h1] at he; simp at he
      | some y => rw [h1] at he; rw [hr _ _ _ _ _ _ h1]; exact he
    | region id ops d =>
      cases d with
      | false => exact evSeq_mono (callO_mono o hr) _ _ _ _ _ _ he
      | true =>
        simp only [evStep] at he ⊢
        split at he
        · rename_i x0 fr' h' hd; rw [evDraw_mono (callO_mono o hr) hd]; exact he
        · simp at he
    | _ => exact he
theorem ev_succ (o : CallF) : ∀ n, RecLe (ev P o n) (ev P o (n + 1)) := by
  intro n
  induction n with
  | zero => intro it c fr u h x he; simp [ev] at he
  | succ n ih => exact evStep_mono o ih
theorem ev_le (o : CallF) {n m : Nat} (h : n ≤ m) : RecLe (ev P o n) (ev P o m) := by
  induction h with
  | refl => exact fun _ _ _ _ _ _ h => h
  | step _ ih => exact fun it c fr u h x he => ev_succ o _ _ _ _ _ _ _ (ih _ _ _ _ _ _ he)
end
end
end Go.Sy
