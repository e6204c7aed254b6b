/- An evaluator of the model's code, sound for every world: part 6. -/
import Derived.Test.YtagahikocoggcaaEv5
import Derived.ProofKit
import Derived.OpenShut
import Derived.Carry
import Derived.Below
/-
  The evaluator, twelfth part: code, calls, deferred calls; what it says of the program's own steps.
-/
namespace Go.Ev
open Go.RowKit

abbrev Out4 := Ex × Fr × Option FrameMode × Hp
abbrev Rec := Bool → Code → Fr → Option FrameMode → Hp → Option Out4

def aRes (P : Program) (rows : Tr Row) (tm : Tr Value) : List ResultVar → Option (List Value)
  | [] => some []
  | .tmp t :: r => match aRes P rows tm r with
    | some l => some ((tm.find t).getD undef :: l)
    | none => none
  | .cell c t :: r => match aLoad P rows t ((tm.find c).getD undef), aRes P rows tm r with
    | some v, some l => some (v :: l)
    | _, _ => none

def aResults (P : Program) (rows : Tr Row) (tm : Tr Value) (fn : Func) : Option Value :=
  match aRes P rows tm fn.results.toList with
  | some [v] => some v
  | some l => some (.tuple l.toArray)
  | none => none

def ofL : List Value → Nat → Tr Value → Tr Value
  | [], _, t => t
  | v :: r, i, t => ofL r (i + 1) (t.put i (some v))

def leaves (P : Program) (rec : Rec) (fn : Func) (tm : Tr Value) : List Deferred → FrameMode → Hp → Option (End × Hp)
  | [], .returning, h => (match aResults P h.rows tm fn with | some v => some (.ret v, h) | none => none)
  | [], .panicking c, h => some (.pan c, h)
  | [], .run, _ => none
  | d :: ds, u, h =>
    match d.target, u with
    | _, .run => none
    | .fn (.func f) cap, u =>
      bif okFn P f then
        match P.funcs[f]? with
        | some fn' =>
          match fn'.body with
          | some c =>
            bif Nat.ble (d.args.toList ++ cap.toList).length fn'.ntmps && Nat.ble fn'.ntmps 1000000 then
              match rec false c ⟨ofL (d.args.toList ++ cap.toList) 0 .leaf, fn'.ntmps, []⟩ (some u) h with
              | some (.normal, ⟨tm', _, []⟩, some u', h') => (match aResults P h'.rows tm' fn' with | some _ => leaves P rec fn tm ds (settle u') h' | none => none)
              | some (.ret, ⟨tm', _, []⟩, some u', h') => (match aResults P h'.rows tm' fn' with | some _ => leaves P rec fn tm ds (settle u') h' | none => none)
              | some (.panic ch, ⟨_, _, []⟩, some u', h') => leaves P rec fn tm ds (raised u' ch) h'
              | _ => none
            else none
          | none => none
        | none => none
      else none
    | _, _ => none

def callF (P : Program) (rec : Rec) : CallF := fun f args h =>
  match P.funcs[f]? with
  | some fn =>
    match fn.body with
    | some c =>
      bif Nat.ble args.length fn.ntmps && Nat.ble fn.ntmps 1000000 then
        match rec false c ⟨ofL args 0 .leaf, fn.ntmps, []⟩ none h with
        | some (.normal, fr, _, h') => leaves P rec fn fr.tm fr.df .returning h'
        | some (.ret, fr, _, h') => leaves P rec fn fr.tm fr.df .returning h'
        | some (.panic ch, fr, _, h') => leaves P rec fn fr.tm fr.df (.panicking ch) h'
        | _ => none
      else none
    | none => none
  | none => none

/-- A call, some of them answered by what is known of them. -/
def callO (P : Program) (o : CallF) (rec : Rec) : CallF := fun f args h =>
  match o f args h with
  | some r => some r
  | none => callF P rec f args h

/-- Nothing is known. -/
def noO : CallF := fun _ _ _ => none

def round (rec : Rec) (c : Code) (fr : Fr) (u : Option FrameMode) (h : Hp) : Option Out4 :=
  match rec false c fr u h with
  | some (.normal, fr', u', h') => rec true c fr' u' h'
  | r => r

def evStep (P : Program) (o : CallF) (rec : Rec) : Rec
  | true, c, fr, u, h => round rec c fr u h
  | false, .skip, fr, u, h => some (.normal, fr, u, h)
  | false, .ret, fr, u, h => some (.ret, fr, u, h)
  | false, .exit id, fr, u, h => some (.exit id, fr, u, h)
  | false, .seq x y, fr, u, h =>
    match rec false x fr u h with
    | some (.normal, fr', u', h') => rec false y fr' u' h'
    | r => r
  | false, .cond c x y, fr, u, h =>
    match opV fr.tm c with
    | some (.bool true) => rec false x fr u h
    | some (.bool false) => rec false y fr u h
    | _ => none
  | false, .block id c, fr, u, h =>
    match rec false c fr u h with
    | some (.exit j, fr', u', h') => bif Nat.beq j id then some (.normal, fr', u', h') else some (.exit j, fr', u', h')
    | r => r
  | false, .loop c, fr, u, h => round rec c fr u h
  | false, .region _ ops false, fr, u, h => evSeq P (callO P o rec) ops ops.toList fr u h
  | false, .region _ ops true, fr, u, h =>
    match evDraw P (callO P o rec) ops fr h with
    | some (fr', h') => some (.normal, fr', u, h')
    | none => none
  | false, _, _, _, _ => none

def ev (P : Program) (o : CallF) : Nat → Rec
  | 0 => fun _ _ _ _ _ => none
  | n + 1 => evStep P o (ev P o n)

def itemOf : Bool → Code → Item
  | true, c => .inLoop c
  | false, c => .code c

def RecOk (P : Program) (rec : Rec) : Prop :=
  ∀ (B : Base) (it : Bool) (c : Code) (fr : Fr) (u : Option FrameMode) (h : Hp) (x : Out4) (μ0 : Mu) (F0 : Nat → Option Row) (w0 : World) (cs0 : List Frame) (kd : CallKind) (μ : Mu) (a : Act) (cs : List Frame) (w : World),
    rec it c fr u h = some x → SR B μ0 F0 w0 cs0 kd μ fr u h a cs w → WI P kd (itemOf it c) (Post B μ0 F0 w0 cs0 kd x) a cs w

section
variable {P : Program} {B : Base}

def resOf (tmps : Array Value) : ResultVar → Sem Value
  | .tmp t => pure (tmps.getD t undef)
  | .cell a t => do loadVar t (← asAddr (tmps.getD a undef))

theorem results_eq (fn : Func) (tmps : Array Value) : results fn tmps = (do let vs ← fn.results.mapM (resOf tmps); pure (if h : vs.size = 1 then vs[0] else .tuple vs)) := rfl

theorem aRes_sound {rows : Tr Row} {n : Nat} {μ : Mu} {w : World} (hw : WR B μ rows.find n w) {tm : Tr Value} {tmps : Array Value} (hg : ∀ i, VR μ ((tm.find i).getD undef) (tmps.getD i undef)) :
    ∀ (l : List ResultVar) (vs : List Value), aRes P rows tm l = some vs → ∃ vs', (l.mapM (resOf tmps)).run P w = .ok vs' w ∧ VRs μ vs vs' := by
  intro l
  induction l with
  | nil => intro vs h; simp [aRes] at h; subst h; exact ⟨[], by simp [Sem.run_pure], .nil⟩
  | cons r l ih =>
    intro vs h
    cases r with
    | tmp t =>
      simp only [aRes] at h
      split at h
      · rename_i vs0 h0
        simp at h; subst h
        obtain ⟨vs', h1, h2⟩ := ih vs0 h0
        refine ⟨tmps.getD t undef :: vs', ?_, .cons (hg t) h2⟩
        have e : (resOf tmps (.tmp t)).run P w = .ok (tmps.getD t undef) w := rfl
        simp only [List.mapM_cons, Sem.run_bind, Sem.run_pure, Result.andThen_ok, h1, e]
      · simp at h
    | cell c t =>
      simp only [aRes] at h
      split at h
      · rename_i v vs0 hl h0
        simp at h; subst h
        obtain ⟨vs', h1, h2⟩ := ih vs0 h0
        obtain ⟨v', h3, h4⟩ := aLoad_sound (P := P) hw (hg c) hl
        refine ⟨v' :: vs', ?_, .cons h4 h2⟩
        have hp : ∃ ad, tmps.getD c undef = .pointer (some ad) := by
          have hgc := hg c
          generalize tmps.getD c undef = y at *
          generalize (tm.find c).getD undef = x at *
          unfold aLoad at hl
          split at hl
          · cases hgc; exact ⟨_, rfl⟩
          · simp at hl
        obtain ⟨ad, had⟩ := hp
        rw [had] at h3
        have h3' : (loadVar t ad).run P w = .ok v' w := by simpa [Instr.loadAt, Instr.sureAddr] using h3
        have e : (resOf tmps (.cell c t)).run P w = .ok v' w := by
          have ea : (asAddr (.pointer (some ad))).run P w = .ok ad w := rfl
          simp only [resOf, Sem.run_bind, had, ea, Result.andThen_ok, h3']
        simp only [List.mapM_cons, Sem.run_bind, Sem.run_pure, Result.andThen_ok, h1, e]
      · simp at h

theorem aResults_sound {rows : Tr Row} {n : Nat} {μ : Mu} {w : World} (hw : WR B μ rows.find n w) {tm : Tr Value} {tmps : Array Value} (hg : ∀ i, VR μ ((tm.find i).getD undef) (tmps.getD i undef)) {fn : Func} {v : Value}
    (h : aResults P rows tm fn = some v) : ∃ v', (results fn tmps).run P w = .ok v' w ∧ VR μ v v' := by
  unfold aResults at h
  have fin : ∀ vs', (fn.results.toList.mapM (resOf tmps)).run P w = .ok vs' w →
      (results fn tmps).run P w = .ok (if h : vs'.toArray.size = 1 then vs'.toArray[0] else .tuple vs'.toArray) w := by
    intro vs' hr
    rw [results_eq, Array.mapM_eq_mapM_toList]
    simp only [Sem.run_bind, Sem.run_map, hr, Result.andThen_ok, Sem.run_pure]
  split at h
  · rename_i v0 h0
    simp at h; subst h
    obtain ⟨vs', h1, h2⟩ := aRes_sound (P := P) hw hg _ _ h0
    obtain ⟨v', m', rfl, hv, hr⟩ := VRs.uncons h2
    have : m' = [] := by have := hr.1; exact List.eq_nil_of_length_eq_zero (by simpa using this.symm)
    subst this
    exact ⟨v', by rw [fin _ h1]; simp, hv⟩
  · rename_i l hne h0
    simp at h; subst h
    obtain ⟨vs', h1, h2⟩ := aRes_sound (P := P) hw hg _ _ h0
    refine ⟨.tuple vs'.toArray, ?_, h2.tuple⟩
    rw [fin _ h1, dif_neg]
    intro h1'
    simp at h1'
    rw [← h2.1] at h1'
    obtain ⟨x, hx⟩ := List.length_eq_one_iff.1 h1'
    exact hne x hx
  · simp at h

theorem ofL_find : ∀ (l : List Value) (i : Nat) (t : Tr Value) (m : Nat), i + l.length ≤ Tr.top → (ofL l i t).find m = if i ≤ m ∧ m < i + l.length then l[m - i]? else t.find m := by
  intro l
  induction l with
  | nil => intro i t m _; simp [ofL]; intro h1 h2; omega
  | cons v l ih =>
    intro i t m h
    simp only [List.length_cons] at h
    simp only [ofL]
    rw [ih (i + 1) _ m (by omega), Tr.find_put _ _ _ _ (by omega)]
    by_cases h1 : i + 1 ≤ m ∧ m < i + 1 + l.length
    · rw [if_pos h1, if_pos ⟨by omega, by simp; omega⟩]
      obtain ⟨j, hj⟩ : ∃ j, m - i = j + 1 := ⟨m - i - 1, by omega⟩
      rw [hj, List.getElem?_cons_succ]; congr 1; omega
    · rw [if_neg h1]
      by_cases h2 : m = i
      · subst h2; rw [if_pos rfl, if_pos ⟨by omega, by simp⟩]; simp
      · rw [if_neg h2, if_neg (by simp; omega)]

/-- The frame with which a call begins. -/
theorem frame0 {μ : Mu} {args : List Value} {args' : Array Value} (hv : VRs μ args args'.toList) {n : Nat} (hn : args.length ≤ n) (hn2 : n ≤ 1000000) :
    AR μ ⟨ofL args 0 .leaf, n, []⟩ { tmps := args' ++ Array.replicate (n - args'.size) undef, defers := [] } := by
  have hl : args.length = args'.size := by have := hv.1; simpa using this
  refine ⟨by simp; omega, fun i => ?_, rfl, fun i d d' h => by simp at h⟩
  have htop : args.length ≤ Tr.top := by unfold Tr.top; omega
  simp only
  rw [ofL_find _ _ _ _ (by omega)]
  by_cases hi : i < args.length
  · rw [if_pos ⟨by omega, by omega⟩]
    obtain ⟨v, hv0⟩ : ∃ v, args[i]? = some v := ⟨args[i], List.getElem?_eq_getElem hi⟩
    obtain ⟨v', h1, h2⟩ := hv.get hv0
    have : (args' ++ Array.replicate (n - args'.size) undef).getD i undef = v' := by
      rw [Array.getD_eq_getD_getElem?, Array.getElem?_append_left (by omega)]
      have : args'[i]? = some v' := by simpa using h1
      rw [this]; rfl
    rw [this]
    simp only [Nat.sub_zero, hv0, Option.getD_some]
    exact h2
  · rw [if_neg (by omega)]
    have : (args' ++ Array.replicate (n - args'.size) undef).getD i undef = undef := by
      rw [Array.getD_eq_getD_getElem?, Array.getElem?_append_right (by omega), Array.getElem?_replicate]
      split <;> rfl
    rw [this]
    simp only [Tr.find, Option.getD_none]
    exact VR.undef μ

theorem PRs.drop {μ : Mu} : ∀ {l l' : List PanicEntry}, PRs μ l l' → PRs μ (l.dropWhile (!·.goexit)) (l'.dropWhile (!·.goexit)) := by
  intro l
  induction l with
  | nil => intro l' h; cases l' with
    | nil => exact trivial
    | cons => exact h.elim
  | cons p l ih => intro l' h; cases l' with
    | nil => exact h.elim
    | cons p' l' =>
      simp only [List.dropWhile_cons]
      rw [← h.1.2.2]
      split
      · exact ih h.2
      · exact h

theorem MR.settle {μ : Mu} {m m' : FrameMode} (h : MR μ m m') : MR μ (Go.settle m) (Go.settle m') := by
  cases m with
  | run => cases m' <;> first | exact h.elim | exact trivial
  | returning => cases m' <;> first | exact h.elim | exact trivial
  | panicking l =>
    cases m' with
    | run => exact h.elim
    | returning => exact h.elim
    | panicking l' =>
      cases l with
      | nil => cases l' with
        | nil => exact trivial
        | cons => exact h.elim
      | cons p l => cases l' with
        | nil => exact h.elim
        | cons p' l' =>
          obtain ⟨v, rc, gx⟩ := p
          obtain ⟨v', rc', gx'⟩ := p'
          obtain ⟨⟨p1, p2, p3⟩, p4⟩ := h
          simp at p2 p3
          subst p2; subst p3
          cases rc with
          | false => exact ⟨⟨p1, rfl, rfl⟩, p4⟩
          | true =>
            have hd := p4.drop
            simp only [Go.settle]
            generalize l.dropWhile (!·.goexit) = x at *
            generalize l'.dropWhile (!·.goexit) = y at *
            cases x <;> cases y <;> first | exact trivial | exact hd.elim | exact hd

theorem MR.raised {μ : Mu} {m m' : FrameMode} {c c' : List PanicEntry} (h : MR μ m m') (hc : PRs μ c c') : MR μ (Go.raised m c) (Go.raised m' c') := by
  cases m <;> cases m' <;> first
    | exact h.elim
    | exact hc
    | exact hc.append h

/-- How a function comes to its end. -/
def RE (B : Base) (μ0 : Mu) (F0 : Nat → Option Row) (w0 : World) (r : End) (h' : Hp) (e : Ending) (w' : World) : Prop :=
  ∃ μ', Le μ0 μ' ∧ WR B μ' h'.rows.find h'.next w' ∧ Keep μ0 F0 w0 μ' h'.rows.find w' ∧ EnR μ' r e

theorem deferred_sound {rec : Rec} (hrec : RecOk P rec) {f : FuncId} {fn : Func} {c : Code} (hf : P.funcs[f]? = some fn) (hb : fn.body = some c) {args : List Value} {args' : Array Value} {μ : Mu} (hv : VRs μ args args'.toList)
    (hn : args.length ≤ fn.ntmps) (hn2 : fn.ntmps ≤ 1000000) {u u' : FrameMode} (hu : MR μ u u') {h : Hp} {x : Out4} (he : rec false c ⟨ofL args 0 .leaf, fn.ntmps, []⟩ (some u) h = some x) {w : World} (hw : WR B μ h.rows.find h.next w)
    {R : Ending → FrameMode → World → Prop}
    (hr : ∀ μ1 a u1' w1, Le μ μ1 → WR B μ1 x.2.2.2.rows.find x.2.2.2.next w1 → Keep μ h.rows.find w μ1 x.2.2.2.rows.find w1 → AR μ1 x.2.1 a → (∃ u1, x.2.2.1 = some u1 ∧ MR μ1 u1 u1') →
      (match x.1 with
        | .normal => a.defers = [] ∧ ∃ v, (results fn a.tmps).run P w1 = .ok v w1 ∧ R (.returned v) u1' w1
        | .ret => a.defers = [] ∧ ∃ v, (results fn a.tmps).run P w1 = .ok v w1 ∧ R (.returned v) u1' w1
        | .panic ch => a.defers = [] ∧ ∀ ch', PRs μ1 ch ch' → R (.panicked ch') u1' w1
        | .exit _ => False)) (hsome : ∃ u1, x.2.2.1 = some u1) : CallsD P f args' u' w R := by
  intro c₀ cs hu0
  let b : Frame := { (default : Frame) with fn := f, kind := .deferred }
  have henter : Frame.enter P f args' .deferred =
      b.at { tmps := args' ++ Array.replicate (fn.ntmps - args'.size) undef, defers := [] } [.code c] := by
    simp [Frame.enter, Frame.at, hf, hb, b]
  have hsr : SR B μ h.rows.find w (c₀ :: cs) .deferred μ ⟨ofL args 0 .leaf, fn.ntmps, []⟩ (some u) h { tmps := args' ++ Array.replicate (fn.ntmps - args'.size) undef, defers := [] } (c₀ :: cs) w :=
    ⟨frame0 hv hn hn2, hw, Keep.refl _ _ _, Le.refl _, ⟨c₀, cs, u', rfl, by subst hu0; rfl, hu⟩, fun _ => rfl⟩
  obtain ⟨e, a', cs', w', hq, harr⟩ := hrec B false c _ _ h x μ h.rows.find w (c₀ :: cs) .deferred μ _ _ w he hsr b [] rfl
  obtain ⟨μ1, hs, her, _⟩ := hq
  simp only [itemOf] at harr
  rw [← henter] at harr
  obtain ⟨u1, hu1⟩ := hsome
  have hcr := hs.cr
  rw [hu1] at hcr
  obtain ⟨c1, rest1, m', e1, rfl, hmr⟩ := hcr
  simp at e1
  obtain ⟨rfl, rfl⟩ := e1
  have key := hr μ1 a' m' w' hs.le hs.wr hs.kp hs.ar ⟨u1, hu1, hmr⟩
  obtain ⟨ex, fr', u2, h'⟩ := x
  cases ex with
  | normal =>
    cases e <;> first | exact her.elim | skip
    obtain ⟨hd, v, h1, h2⟩ := key
    exact ⟨.returned v, m', w', _, h2, Steps.trans harr (.one step_end), rfl, rfl, hd, fn, hf, h1⟩
  | ret =>
    cases e <;> first | exact her.elim | skip
    obtain ⟨hd, v, h1, h2⟩ := key
    obtain ⟨todo, hst⟩ := harr
    exact ⟨.returned v, m', w', _, h2, hst, rfl, rfl, hd, fn, hf, h1⟩
  | panic ch =>
    cases e <;> first | exact her.elim | skip
    rename_i ch'
    obtain ⟨hd, h2⟩ := key
    obtain ⟨todo, hst⟩ := harr
    exact ⟨.panicked ch', m', w', _, h2 ch' her, hst, rfl, rfl, hd, fn, hf⟩
  | exit i => exact key.elim

theorem leaves_sound {rec : Rec} (hrec : RecOk P rec) {fn : Func} {tm : Tr Value} {tmps : Array Value} {r : End} {h' : Hp} {μ0 : Mu} {F0 : Nat → Option Row} {w0 : World} :
    ∀ (ds ds' : List Deferred) (u u' : FrameMode) (h : Hp) (μ : Mu) (w : World), leaves P rec fn tm ds u h = some (r, h') → WR B μ h.rows.find h.next w → Keep μ0 F0 w0 μ h.rows.find w → Le μ0 μ →
      (∀ i, VR μ ((tm.find i).getD undef) (tmps.getD i undef)) → MR μ u u' → ds.length = ds'.length → (∀ (i : Nat) d d', ds[i]? = some d → ds'[i]? = some d' → DR μ d d') →
      Leaves P fn tmps (RE B μ0 F0 w0 r h') ds' u' w := by
  intro ds
  induction ds with
  | nil =>
    intro ds' u u' h μ w he hw hk hl hg hu hlen _
    cases ds' with
    | cons => simp at hlen
    | nil =>
      cases u with
      | run => simp [leaves] at he
      | returning =>
        cases u' <;> first | exact hu.elim | skip
        simp only [leaves] at he
        split at he
        · rename_i v hv
          simp at he; obtain ⟨rfl, rfl⟩ := he
          obtain ⟨v', h1, h2⟩ := aResults_sound (P := P) hw hg hv
          exact ⟨v', h1, μ, hl, hw, hk, h2⟩
        · simp at he
      | panicking c =>
        cases u' <;> first | exact hu.elim | skip
        simp only [leaves, Option.some.injEq, Prod.mk.injEq] at he
        obtain ⟨rfl, rfl⟩ := he
        exact ⟨μ, hl, hw, hk, hu⟩
  | cons d ds ih =>
    intro ds' u u' h μ w he hw hk hl hg hu hlen hd
    cases ds' with
    | nil => simp at hlen
    | cons d' ds' =>
      have hd0 := hd 0 d d' rfl rfl
      have hd1 : ∀ (i : Nat) e e', ds[i]? = some e → ds'[i]? = some e' → DR μ e e' := fun i e e' h1 h2 => hd (i + 1) e e' (by simpa using h1) (by simpa using h2)
      unfold leaves at he
      split at he
      · simp at he
      · rename_i u _ _ f cap htar hrun
        cases hok : okFn P f with
        | false => simp [hok] at he
        | true =>
          simp only [hok, cond_true] at he
          split at he
          · rename_i fn' hf
            split at he
            · rename_i c hb
              cases hc : (Nat.ble (d.args.toList ++ cap.toList).length fn'.ntmps && Nat.ble fn'.ntmps 1000000) with
              | false => simp only [hc, cond_false] at he; simp at he
              | true =>
                simp only [hc, cond_true] at he
                simp only [Bool.and_eq_true] at hc
                have c1 := Nat.le_of_ble_eq_true hc.1
                have c2 := Nat.le_of_ble_eq_true hc.2
                obtain ⟨f0, cp, cp', t1, t2, t3, t4⟩ := hd0
                rw [htar] at t1
                simp at t1
                obtain ⟨rfl, rfl⟩ := t1
                have hargs : VRs μ (d.args.toList ++ cap.toList) (d'.args ++ cp').toList := by simpa using t4.append t3
                have hne : u' ≠ .run := by
                  intro e; subst e
                  cases u <;> first | exact hu.elim | exact hrun rfl
                have hinv : (invoke d'.target d'.args).run P w = .ok (.enter f (d'.args ++ cp')) w := by
                  rw [t2]; simp only [invoke]; exact run_callFunc hok _
                refine ⟨hne, .func f, cp', f, d'.args ++ cp', t2, hinv, ?_⟩
                have again : ∀ (u1 : FrameMode) (h1 : Hp) (μ1 : Mu) (w1 : World) (u1' : FrameMode), leaves P rec fn tm ds u1 h1 = some (r, h') → Le μ μ1 → WR B μ1 h1.rows.find h1.next w1 → Keep μ h.rows.find w μ1 h1.rows.find w1 → MR μ1 u1 u1' →
                    Leaves P fn tmps (RE B μ0 F0 w0 r h') ds' u1' w1 := by
                  intro u1 h1 μ1 w1 u1' hl1 q1 q2 q3 q4
                  exact ih ds' u1 u1' h1 μ1 w1 hl1 q2 (hk.trans q3) (hl.trans q1) (fun i => (hg i).le q1) q4 (by simpa using hlen) (fun i e e' a1 a2 => (hd1 i e e' a1 a2).le q1)
                split at he
                · rename_i tm' nt' u1 h1 hx
                  split at he
                  · rename_i v hv
                    refine deferred_sound hrec hf hb hargs c1 c2 hu hx hw (R := _) (fun μ1 a u1' w1 q1 q2 q3 q4 q5 => ?_) ⟨u1, rfl⟩
                    obtain ⟨u2, e2, hm⟩ := q5
                    simp at e2; subst e2
                    obtain ⟨v', r1, r2⟩ := aResults_sound (P := P) q2 q4.get hv
                    have hdf : a.defers = [] := List.eq_nil_of_length_eq_zero (by have := q4.dlen; simpa using this.symm)
                    exact ⟨hdf, v', r1, again _ h1 μ1 w1 _ he q1 q2 q3 hm.settle⟩
                  · simp at he
                · rename_i tm' nt' u1 h1 hx
                  split at he
                  · rename_i v hv
                    refine deferred_sound hrec hf hb hargs c1 c2 hu hx hw (R := _) (fun μ1 a u1' w1 q1 q2 q3 q4 q5 => ?_) ⟨u1, rfl⟩
                    obtain ⟨u2, e2, hm⟩ := q5
                    simp at e2; subst e2
                    obtain ⟨v', r1, r2⟩ := aResults_sound (P := P) q2 q4.get hv
                    have hdf : a.defers = [] := List.eq_nil_of_length_eq_zero (by have := q4.dlen; simpa using this.symm)
                    exact ⟨hdf, v', r1, again _ h1 μ1 w1 _ he q1 q2 q3 hm.settle⟩
                  · simp at he
                · rename_i ch tm' nt' u1 h1 hx
                  refine deferred_sound hrec hf hb hargs c1 c2 hu hx hw (R := _) (fun μ1 a u1' w1 q1 q2 q3 q4 q5 => ?_) ⟨u1, rfl⟩
                  obtain ⟨u2, e2, hm⟩ := q5
                  simp at e2; subst e2
                  have hdf : a.defers = [] := List.eq_nil_of_length_eq_zero (by have := q4.dlen; simpa using this.symm)
                  exact ⟨hdf, fun ch' hch => again _ h1 μ1 w1 _ he q1 q2 q3 (hm.raised hch)⟩
                · simp at he
            · simp at he
          · simp at he
      · simp at he

theorem callF_ok {rec : Rec} (hrec : RecOk P rec) : CallsOk P (callF P rec) := by
  intro B f args h r h' μ w args' he hw hargs hok
  unfold callF at he
  split at he
  · rename_i fn hf
    split at he
    · rename_i c hb
      cases hc : (Nat.ble args.length fn.ntmps && Nat.ble fn.ntmps 1000000) with
      | false => simp only [hc, cond_false] at he; simp at he
      | true =>
        simp only [hc, cond_true] at he
        simp only [Bool.and_eq_true] at hc
        have c1 := Nat.le_of_ble_eq_true hc.1
        have c2 := Nat.le_of_ble_eq_true hc.2
        intro cs
        let b : Frame := { (default : Frame) with fn := f, kind := .normal }
        have henter : Frame.enter P f args' .normal =
            b.at { tmps := args' ++ Array.replicate (fn.ntmps - args'.size) undef, defers := [] } [.code c] := by
          simp [Frame.enter, Frame.at, hf, hb, b]
        have hsr : SR B μ h.rows.find w cs .normal μ ⟨ofL args 0 .leaf, fn.ntmps, []⟩ none h { tmps := args' ++ Array.replicate (fn.ntmps - args'.size) undef, defers := [] } cs w :=
          ⟨frame0 hargs c1 c2, hw, Keep.refl _ _ _, Le.refl _, rfl, fun h => by simp at h⟩
        have run : ∀ x, rec false c ⟨ofL args 0 .leaf, fn.ntmps, []⟩ none h = some x → ∃ e a' w', Arrives P (lone (Frame.enter P f args' .normal) cs w) b [] cs e a' w' ∧
            ∃ μ1, Le μ μ1 ∧ WR B μ1 x.2.2.2.rows.find x.2.2.2.next w' ∧ Keep μ h.rows.find w μ1 x.2.2.2.rows.find w' ∧ AR μ1 x.2.1 a' ∧ ER μ1 x.1 e := by
          intro x hx
          obtain ⟨e, a', cs', w', hq, harr⟩ := hrec B false c _ _ h x μ h.rows.find w cs .normal μ _ _ w hx hsr b [] rfl
          obtain ⟨μ1, hs, her, hkd⟩ := hq
          have hu : x.2.2.1 = none := by
            cases hu : x.2.2.1 with
            | none => rfl
            | some m => have := hkd (by rw [hu]; rfl); simp at this
          have hcs : cs' = cs := by have := hs.cr; rw [hu] at this; exact this
          subst hcs
          simp only [itemOf] at harr
          rw [← henter] at harr
          exact ⟨e, a', w', harr, μ1, hs.le, hs.wr, hs.kp, hs.ar, her⟩
        have last : ∀ (fr : Fr) (h1 : Hp) (u u' : FrameMode) (a' : Act) (w' : World) (todo : List Item) (μ1 : Mu), leaves P rec fn fr.tm fr.df u h1 = some (r, h') → Le μ μ1 → WR B μ1 h1.rows.find h1.next w' → Keep μ h.rows.find w μ1 h1.rows.find w' → AR μ1 fr a' → MR μ1 u u' →
            Steps P (lone (Frame.enter P f args' .normal) cs w) (lone { b.at a' todo with mode := u' } cs w') →
            ∃ e w'' fr', RE B μ h.rows.find w r h' e w'' ∧ Comes P (lone (Frame.enter P f args' .normal) cs w) (lone fr' cs w'') e ∧ fr'.fn = f ∧ fr'.leaving P w'' e := by
          intro fr h1 u u' a' w' todo μ1 hl q1 q2 q3 q4 q5 hst
          have hlv := leaves_sound hrec (tmps := a'.tmps) fr.df a'.defers u u' h1 μ1 w' hl q2 q3 q1 q4.get q5 q4.dlen q4.dget
          obtain ⟨e', w'', fr', hR, hs, hfn, hl⟩ := leaves_steps a'.defers u' w' { b.at a' todo with mode := u' } cs rfl rfl rfl hf rfl hlv
          exact ⟨e', w'', fr', hR, Comes.of_steps hst hs, hfn, hl⟩
        split at he
        · rename_i fr u1 h1 hx
          obtain ⟨e, a', w', harr, μ1, q1, q2, q3, q4, q5⟩ := run _ hx
          cases e <;> first | exact q5.elim | skip
          exact last fr h1 .returning .returning a' w' [] μ1 he q1 q2 q3 q4 trivial (Steps.trans harr (.one step_end))
        · rename_i fr u1 h1 hx
          obtain ⟨e, a', w', harr, μ1, q1, q2, q3, q4, q5⟩ := run _ hx
          cases e <;> first | exact q5.elim | skip
          obtain ⟨todo, hst⟩ := harr
          exact last fr h1 .returning .returning a' w' todo μ1 he q1 q2 q3 q4 trivial hst
        · rename_i ch fr u1 h1 hx
          obtain ⟨e, a', w', harr, μ1, q1, q2, q3, q4, q5⟩ := run _ hx
          cases e <;> first | exact q5.elim | skip
          obtain ⟨todo, hst⟩ := harr
          exact last fr h1 (.panicking ch) (.panicking _) a' w' todo μ1 he q1 q2 q3 q4 q5 hst
        · simp at he
    · simp at he
  · simp at he

theorem post_then {μ0 : Mu} {F0 : Nat → Option Row} {w0 : World} {cs0 : List Frame} {kd : CallKind} {x y : Out4} {e : Exit} {a : Act} {cs : List Frame} {w : World} {K : Act → List Frame → World → Prop}
    (h : Post B μ0 F0 w0 cs0 kd x e a cs w) (h1 : x.1 = .normal → ∀ μ, SR B μ0 F0 w0 cs0 kd μ x.2.1 x.2.2.1 x.2.2.2 a cs w → K a cs w) (h2 : x.1 ≠ .normal → y = x) :
    Then K (Post B μ0 F0 w0 cs0 kd y) e a cs w := by
  obtain ⟨μ, hs, her, hk⟩ := h
  cases e with
  | normal =>
    have : x.1 = .normal := by
      obtain ⟨ex, _⟩ := x
      cases ex <;> first | rfl | exact her.elim
    exact h1 this μ hs
  | _ =>
    have hne : x.1 ≠ .normal := by
      intro e0; rw [e0] at her; exact her.elim
    rw [h2 hne]
    exact ⟨μ, hs, her, hk⟩

theorem round_ok {rec : Rec} (hrec : RecOk P rec) {c : Code} {it : Item} (hit : it = .code (.loop c) ∨ it = .inLoop c) {fr : Fr} {u : Option FrameMode} {h : Hp} {x : Out4} {μ0 : Mu} {F0 : Nat → Option Row} {w0 : World} {cs0 : List Frame} {kd : CallKind}
    {μ : Mu} {a : Act} {cs : List Frame} {w : World} (he : round rec c fr u h = some x) (hs : SR B μ0 F0 w0 cs0 kd μ fr u h a cs w) : WI P kd it (Post B μ0 F0 w0 cs0 kd x) a cs w := by
  refine wi_round hit ?_
  unfold round at he
  split at he
  · rename_i fr' u' h1 hx
    refine wi_mono (hrec B false c fr u h _ μ0 F0 w0 cs0 kd μ a cs w hx hs) fun e a1 cs1 w1 hp => ?_
    exact post_then hp (fun _ μ1 hs1 => hrec B true c fr' u' h1 x μ0 F0 w0 cs0 kd μ1 a1 cs1 w1 he hs1) (fun h => absurd rfl h)
  · rename_i r hne
    refine wi_mono (hrec B false c fr u h x μ0 F0 w0 cs0 kd μ a cs w he hs) fun e a1 cs1 w1 hp => ?_
    exact post_then hp (fun h1 μ1 hs1 => by obtain ⟨ex, f1, u1, h1'⟩ := x; simp only at h1; subst h1; exact absurd he (hne f1 u1 h1')) (fun _ => rfl)

theorem callO_ok {o : CallF} (ho : CallsOk P o) {rec : Rec} (hrec : RecOk P rec) : CallsOk P (callO P o rec) := by
  intro B f args h r h' μ w args' he
  unfold callO at he
  split at he
  · rename_i x hx
    simp at he; subst he
    exact ho B f args h r h' μ w args' hx
  · exact callF_ok hrec B f args h r h' μ w args' he

theorem noO_ok : CallsOk P noO := by
  intro B f args h r h' μ w args' he
  simp [noO] at he

theorem step_ok (hm : P.follows .mixedOrders = true) {o : CallF} (ho : CallsOk P o) {rec : Rec} (hrec : RecOk P rec) : RecOk P (evStep P o rec) := by
  intro B it c fr u h x μ0 F0 w0 cs0 kd μ a cs w he hs
  unfold evStep at he
  split at he
  · exact round_ok hrec (.inr rfl) he hs
  · simp at he; subst he; exact wi_skip ⟨μ, hs, trivial, hs.kdef⟩
  · simp at he; subst he; exact wi_ret ⟨μ, hs, trivial, hs.kdef⟩
  · simp at he; subst he; exact wi_exit ⟨μ, hs, rfl, hs.kdef⟩
  · rename_i x1 y1
    refine wi_seq ?_
    split at he
    · rename_i fr' u' h1 hx
      refine wi_mono (hrec B false x1 fr u h _ μ0 F0 w0 cs0 kd μ a cs w hx hs) fun e a1 cs1 w1 hp => ?_
      exact post_then hp (fun _ μ1 hs1 => hrec B false y1 fr' u' h1 x μ0 F0 w0 cs0 kd μ1 a1 cs1 w1 he hs1) (fun h => absurd rfl h)
    · rename_i hne
      refine wi_mono (hrec B false x1 fr u h x μ0 F0 w0 cs0 kd μ a cs w he hs) fun e a1 cs1 w1 hp => ?_
      exact post_then hp (fun h1 μ1 hs1 => by obtain ⟨ex, f1, u1, h1'⟩ := x; simp only at h1; subst h1; exact absurd he (hne f1 u1 h1')) (fun _ => rfl)
  · rename_i c0 x1 y1
    split at he
    · rename_i hc
      have hv := opV_sound hs.ar _ _ hc
      have : a.eval c0 = .bool true := by generalize a.eval c0 = y at *; cases hv; rfl
      exact wi_cond this (hrec B false x1 fr u h x μ0 F0 w0 cs0 kd μ a cs w he hs)
    · rename_i hc
      have hv := opV_sound hs.ar _ _ hc
      have : a.eval c0 = .bool false := by generalize a.eval c0 = y at *; cases hv; rfl
      exact wi_cond this (hrec B false y1 fr u h x μ0 F0 w0 cs0 kd μ a cs w he hs)
    · simp at he
  · rename_i id c0
    refine wi_block ?_
    split at he
    · rename_i j fr' u' h1 hx
      refine wi_mono (hrec B false c0 fr u h _ μ0 F0 w0 cs0 kd μ a cs w hx hs) fun e a1 cs1 w1 hp => ?_
      obtain ⟨μ1, hs1, her, hk⟩ := hp
      cases e <;> first | exact her.elim | skip
      rename_i j'
      have her' : j = j' := her
      subst her'
      cases hb : Nat.beq j id with
      | false =>
        simp only [hb, cond_false, Option.some.injEq] at he; subst he
        have : j ≠ id := by intro e; subst e; simp at hb
        simp only [InBlock, this, if_false]
        exact ⟨μ1, hs1, rfl, hk⟩
      | true =>
        simp only [hb, cond_true, Option.some.injEq] at he; subst he
        have := Nat.eq_of_beq_eq_true hb
        simp only [InBlock, this, if_true]
        exact ⟨μ1, hs1, trivial, hk⟩
    · rename_i hne
      refine wi_mono (hrec B false c0 fr u h x μ0 F0 w0 cs0 kd μ a cs w he hs) fun e a1 cs1 w1 hp => ?_
      obtain ⟨μ1, hs1, her, hk⟩ := hp
      obtain ⟨ex, f1, u1, h1'⟩ := x
      cases e with
      | exit j' =>
        cases ex <;> first | exact her.elim | skip
        exact absurd he (hne _ _ _ _)
      | _ => exact ⟨μ1, hs1, her, hk⟩
  · exact round_ok hrec (.inl rfl) he hs
  · rename_i id ops
    have := evSeq_sound (callO_ok ho hrec) ops.toList 0 fr u h μ a cs w (by simp) he hs
    refine wi_region ?_
    rw [List.range_eq_range', ← Array.length_toList]
    exact this
  · rename_i id ops
    split at he
    · rename_i fr' h1 hd
      simp at he; subst he
      refine wi_of_wp (wp_mono (evDraw_sound (callO_ok ho hrec) hm hd hs.ar hs.wr) ?_)
      rintro e a1 w1 ⟨rfl, μ1, q1, q2, q3, q4⟩
      exact ⟨μ1, ⟨q4, q2, hs.kp.trans q3, hs.le.trans q1, hs.cr.le q1, hs.kdef⟩, trivial, hs.kdef⟩
    · simp at he
  · simp at he

theorem ev_ok (hm : P.follows .mixedOrders = true) {o : CallF} (ho : CallsOk P o) : ∀ n, RecOk P (ev P o n) := by
  intro n
  induction n with
  | zero => intro B it c fr u h x μ0 F0 w0 cs0 kd μ a cs w he; simp [ev] at he
  | succ n ih => exact step_ok hm ho ih
end

/-- A function's call, with fuel. -/
def runO (P : Program) (o : CallF) (n : Nat) (f : FuncId) (args : List Value) (h : Hp) : Option (End × Hp) := callF P (ev P o n) f args h
def run (P : Program) (n : Nat) (f : FuncId) (args : List Value) (h : Hp) : Option (End × Hp) := runO P noO n f args h

/-- What is returned, if anything is. -/
def ret? : Option (End × Hp) → Option Value
  | some (.ret r, _) => some r
  | _ => none

/-- A call without addresses among its arguments, from no memory at all: what the evaluator says holds in every world. -/
theorem run_closedO {P : Program} (hm : P.follows .mixedOrders = true) {o : CallF} (ho : CallsOk P o) {n : Nat} {f : FuncId} (hok : okFn P f = true) {args : List Value} (hfl : args.all (flat 12) = true) {v : Value} (hv : flat 12 v = true)
    (h : ret? (runO P o n f args ⟨.leaf, 0⟩) = some v) (w : World) :
    Calls P f args.toArray w fun e w' => e = .returned v ∧ Below w.heap.size w w' := by
  unfold ret? at h
  split at h
  · rename_i r h' hr
    simp at h; subst h
    have hw : WR ⟨w.heap.size, fun _ => False⟩ (fun _ => none) (Hp.rows ⟨.leaf, 0⟩).find (Hp.next ⟨.leaf, 0⟩) w :=
      ⟨Nat.le_refl _, fun _ hz => hz.elim, fun _ _ => rfl, fun q row hq => by simp [Tr.find] at hq, fun q1 q2 x y b o s o' s' hx => by simp [Tr.find] at hx⟩
    have hargs : VRs (fun _ => none) args args.toArray.toList := by
      refine ⟨by simp, fun i v v' h1 h2 => ?_⟩
      simp at h2
      rw [h1] at h2; simp at h2; subst h2
      rw [List.all_eq_true] at hfl
      exact flat_refl _ _ (hfl v (List.mem_of_getElem? h1))
    refine (callF_ok (ev_ok hm ho n) _ f args ⟨.leaf, 0⟩ (.ret r) h' (fun _ => none) w args.toArray hr hw hargs hok).mono ?_
    rintro e w' ⟨μ', q1, q2, q3, q4⟩
    cases e with
    | returned v' =>
      refine ⟨by rw [flat_eq _ _ _ hv q4], ⟨q3.os, q3.tape, q3.output, q3.size, fun k hk => q3.block k hk ?_⟩⟩
      rintro ⟨q, row, o', s, hq, _⟩
      simp [Tr.find] at hq
    | panicked c => exact q4.elim
    | outgrown => exact q4.elim
  · simp at h

theorem run_closed {P : Program} (hm : P.follows .mixedOrders = true) {n : Nat} {f : FuncId} (hok : okFn P f = true) {args : List Value} (hfl : args.all (flat 12) = true) {v : Value} (hv : flat 12 v = true)
    (h : ret? (run P n f args ⟨.leaf, 0⟩) = some v) (w : World) :
    Calls P f args.toArray w fun e w' => e = .returned v ∧ Below w.heap.size w w' := run_closedO hm noO_ok hok hfl hv h w
end Go.Ev

/-
  From a contract to a law's row: the call answers true, and what was there stays.
-/
namespace Go.Ev
open Go.RowKit Go.ChangeShapes Go.WideShapes Go.ChangeAt

section
variable {H : Type} {enc : TypeId × Value → H} {P : Program}

theorem trodAll_below (hl : laidOutB P = true) {W W' : World} (hb : Below W.heap.size W W') : ∀ (ts : List TypeId) (vs : List Value) (ds : List (DataW H)) (p : List MemPlace), (∀ t ∈ ts, P.readableRec t = true ∧ t < P.types.size) →
    DataW.TrodAll enc P W 0 (fun _ => true) true ts vs ds p → (∀ x ∈ p, x.block < W.heap.size) → DataW.TrodAll enc P W' 0 (fun b => decide (b < W.heap.size)) true ts vs ds p := by
  intro ts
  induction ts with
  | nil => intro vs ds p _ h _; cases vs <;> cases ds <;> first | exact h | exact h.elim
  | cons t ts ih =>
    intro vs ds p hr h hlt
    cases vs with
    | nil => cases ds <;> exact h.elim
    | cons v vs =>
      cases ds with
      | nil => exact h.elim
      | cons d ds =>
        obtain ⟨p1, q1, h1, h2, rfl⟩ := h
        exact ⟨p1, q1, Below.trod hl (hr t (by simp)).1 (hr t (by simp)).2 h1 hb (fun x hx => hlt x (by simp [hx])), ih vs ds q1 (fun t' ht' => hr t' (by simp [ht'])) h2 (fun x hx => hlt x (by simp [hx])), rfl⟩

theorem trodAll_length {W : World} {b : Nat} {sp : Nat → Bool} {hd : Bool} : ∀ (ts : List TypeId) (vs : List Value) (ds : List (DataW H)) (p : List MemPlace), DataW.TrodAll enc P W b sp hd ts vs ds p → ds.length = ts.length ∧ vs.length = ts.length := by
  intro ts
  induction ts with
  | nil => intro vs ds p h; cases vs <;> cases ds <;> first | exact ⟨rfl, rfl⟩ | exact h.elim
  | cons t ts ih =>
    intro vs ds p h
    cases vs with
    | nil => cases ds <;> exact h.elim
    | cons v vs =>
      cases ds with
      | nil => exact h.elim
      | cons d ds => obtain ⟨p1, q1, _, h2, _⟩ := h; have := ih vs ds q1 h2; exact ⟨by simp [this.1], by simp [this.2]⟩

/-- The specification of a law: true, and each argument as it was. -/
def LawSpec (s : ChangeSpec) (n : Nat) : Prop :=
  s.vars = [] ∧ ∀ (H : Type) (ds : List (DataW H)), ds.length = n → (s.fn H ds).results = [.lit (.bool true)] ∧ (s.fn H ds).args = ds ∧ (s.fn H ds).vars = []

theorem law_post {f : Func} {s : ChangeSpec} {tb : TypeId} (hs : LawSpec s f.params.size) (hrt : f.resultTypes = #[tb]) (htb : P.underlying tb = some .bool) (hl : laidOutB P = true)
    (hr : ∀ t ∈ f.params.toList, P.readableRec t = true ∧ t < P.types.size) {W W' : World} {args : Array Value} {ds gs : List (DataW H)} {before : List MemPlace}
    (hW : DataW.Whole enc P f.params.toList s.vars false W args.toList ds gs before) (hb : Below W.heap.size W W') : s.post enc P f false true false false W args (.bool true) W' := by
  have hlt : ∀ p ∈ before, p.block < W.heap.size := fun p hp => hW.lt p hp
  have hW' := hW
  obtain ⟨p, q, hA, hV, rfl, _, _⟩ := hW
  rw [hs.1] at hV
  obtain ⟨rfl, rfl⟩ := trodVars_none hV
  obtain ⟨h1, h2, h3⟩ := hs.2 H ds (by simpa using (trodAll_length _ _ _ _ hA).1)
  refine ⟨ds, [], p ++ [], [], p, [], hW', ?_, ?_, ?_, hb.frame _, fun h => by simp at h⟩
  · rw [List.append_nil, h1, hrt]
    exact trodAll_cons_mk (shut_bool htb _) trodAll_mk0
  · rw [List.append_nil, h2]
    exact trodAll_below hl hb _ _ _ _ hr hA (fun x hx => hlt x (by simp [hx]))
  · rw [List.append_nil, h3, hs.1]; rfl

theorem law_lifted {C : Checked} {os : Os} {f : FuncId} {fn : Func} {s : ChangeSpec} {tb : TypeId} (own : ownKnob C.prog.godebug = none) (started : os.Started) (noInit : C.prog.inits.idxOf? f = none) (hfn : C.prog.funcs[f]? = some fn)
    (witness : ∃ (w : World) (tape : Tape) (i : Input), w.os = os ∧ (w.forCall tape i).Shaped C.prog ∧ i.vars = [] ∧ Input.okWide C.prog (w.forCall tape i) .any w.heap.size f i ∧
      s.pre6 enc C.prog fn [] false (w.forCall tape i).memory i.args ∧ ({} : Assume).holds C.prog (lone (Frame.enter C.prog f i.args .normal) [] (w.forCall tape i)))
    (hs : LawSpec s fn.params.size) (hrt : fn.resultTypes = #[tb]) (htb : C.prog.underlying tb = some .bool) (hl : laidOutB C.prog = true) (hr : ∀ t ∈ fn.params.toList, C.prog.readableRec t = true ∧ t < C.prog.types.size)
    (contract : ∀ (W : World) (base : Nat) (args : Array Value) (ds : List (DataW H)) (p : List MemPlace), (∀ (j : Nat) t v, fn.params[j]? = some t → args[j]? = some v → Value.okWide C.prog W .any base t v) →
      DataW.TrodAll enc C.prog W 0 (fun _ => true) true fn.params.toList args.toList ds p → Calls C.prog f args W fun e W' => e = .returned (.bool true) ∧ Below W.heap.size W W') :
    ReturnsInHanded {} C os f .any (s.pre6 enc C.prog fn [] false) (s.post enc C.prog fn false true false false) := by
  refine returnsInHanded_of_change own started noInit hfn witness ?_
  intro W base args ds gs before hval hW _ _
  have hW' := hW
  obtain ⟨p, q, hA, _⟩ := hW
  refine (contract W base args ds p hval hA).mono fun e W' ⟨he, hb⟩ => ?_
  exact ⟨_, he, law_post hs hrt htb hl hr hW' hb⟩
end
end Go.Ev
