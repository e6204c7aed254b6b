/- An evaluator of the model's code, sound for every world: part 4. -/
import Derived.Test.YtagahikocoggcaaEv3
/-
  The evaluator, ninth part: frames; one operation whatever it is; a row of operations in the text's order.
-/
namespace Go.Ev
open Go.RowKit

structure Fr where
  tm : Tr Value
  nt : Nat
  df : List Deferred

structure AR (μ : Mu) (fr : Fr) (a : Act) : Prop where
  size : a.tmps.size = fr.nt
  get : ∀ i, VR μ ((fr.tm.find i).getD undef) (a.tmps.getD i undef)
  dlen : fr.df.length = a.defers.length
  dget : ∀ (i : Nat) d d', fr.df[i]? = some d → a.defers[i]? = some d' → DR μ d d'

theorem AR.le {μ μ' : Mu} {fr : Fr} {a : Act} (h : AR μ fr a) (hl : Le μ μ') : AR μ' fr a :=
  ⟨h.size, fun i => (h.get i).le hl, h.dlen, fun i d d' h1 h2 => (h.dget i d d' h1 h2).le hl⟩

def opV (tm : Tr Value) : Operand → Option Value
  | .tmp t => (match tm.find t with | some v => some v | none => some undef)
  | .const v => bif flat 12 v then some v else none
  | .func f => some (.func (.func f) #[] #[])
  | .global _ => none

theorem VR.undef (μ : Mu) : VR μ undef undef := .tuple _ _ rfl (fun i h => by simp at h)

theorem opV_sound {μ : Mu} {fr : Fr} {a : Act} (h : AR μ fr a) : ∀ x v, opV fr.tm x = some v → VR μ v (a.eval x) := by
  intro x v hv
  cases x with
  | tmp t =>
    have := h.get t
    simp only [opV] at hv
    simp only [Act.eval]
    cases hf : fr.tm.find t with
    | none => rw [hf] at hv this; simp at hv; subst hv; exact this
    | some u => rw [hf] at hv this; simp at hv; subst hv; exact this
  | const c =>
    simp only [opV] at hv
    cases hf : flat 12 c with
    | false => rw [hf] at hv; simp at hv
    | true => rw [hf] at hv; simp at hv; subst hv; exact flat_refl _ _ hf
  | func f => simp only [opV, Option.some.injEq] at hv; subst hv; exact .func _ _ _ _ _ rfl rfl (fun i h => by simp at h) (fun i h => by simp at h)
  | global g => simp [opV] at hv

/-! Normal forms, for the kernel's sake. -/
def nfK {β : Type} (v : Value) (k : Value → β) : β :=
  match v with
  | .int t (.ofNat 0) => k (.int t (.ofNat 0))
  | .int t (.ofNat (n + 1)) => k (.int t (.ofNat (Nat.succ n)))
  | .int t (.negSucc 0) => k (.int t (.negSucc 0))
  | .int t (.negSucc (n + 1)) => k (.int t (.negSucc (Nat.succ n)))
  | .bool true => k (.bool true)
  | .bool false => k (.bool false)
  | v => k v
theorem nfK_eq {β : Type} (v : Value) (k : Value → β) : nfK v k = k v := by
  unfold nfK; split <;> rfl

def nfHp {β : Type} (h : Hp) (k : Hp → β) : β :=
  match h with
  | ⟨.leaf, 0⟩ => k ⟨.leaf, 0⟩
  | ⟨.leaf, n + 1⟩ => k ⟨.leaf, Nat.succ n⟩
  | ⟨.node l v r, 0⟩ => k ⟨.node l v r, 0⟩
  | ⟨.node l v r, n + 1⟩ => k ⟨.node l v r, Nat.succ n⟩
theorem nfHp_eq {β : Type} (h : Hp) (k : Hp → β) : nfHp h k = k h := by
  unfold nfHp; split <;> rfl

/-- A slot is written. -/
def putFr {β : Type} (fr : Fr) (dst : Option Tmp) (v : Value) (k : Fr → Option β) : Option β :=
  match dst with
  | none => k fr
  | some d => bif Nat.blt d fr.nt && Nat.blt d Tr.top then Tr.putK 40 fr.tm d (some v) fun tm => k ⟨tm, fr.nt, fr.df⟩ else none

theorem putFr_sound {β : Type} {μ : Mu} {fr : Fr} {a : Act} (h : AR μ fr a) {dst : Option Tmp} {v v' : Value} (hv : VR μ v v') {k : Fr → Option β} {r : β} (hk : putFr fr dst v k = some r) :
    ∃ fr', AR μ fr' (a.put dst v') ∧ k fr' = some r ∧ fr'.df = fr.df := by
  unfold putFr at hk
  split at hk
  · exact ⟨fr, h, hk, rfl⟩
  · rename_i d
    cases hc : (Nat.blt d fr.nt && Nat.blt d Tr.top) with
    | false => simp only [hc, cond_false] at hk; simp at hk
    | true =>
      simp only [hc, cond_true] at hk
      simp only [Bool.and_eq_true] at hc
      have c1 : d < fr.nt := Nat.le_of_ble_eq_true hc.1
      have c2 : d < Tr.top := Nat.le_of_ble_eq_true hc.2
      rw [Tr.putK_eq] at hk
      refine ⟨⟨Tr.putK 40 fr.tm d (some v) fun t => t, fr.nt, fr.df⟩, ⟨?_, ?_, h.dlen, h.dget⟩, hk, rfl⟩
      · simp [Act.put, h.size]
      · intro i
        have hf := Tr.find_put fr.tm d i (some v) c2
        unfold Tr.put at hf
        simp only [hf]
        by_cases hi : i = d
        · subst hi
          have : (a.tmps.setIfInBounds i v').getD i undef = v' := by
            simp [Array.getD_eq_getD_getElem?, h.size, c1]
          simp only [Act.put, if_true, Option.getD_some, this]
          exact hv
        · have : (a.tmps.setIfInBounds d v').getD i undef = a.tmps.getD i undef := by
            simp [Array.getD_eq_getD_getElem?, Array.getElem?_setIfInBounds_ne (Ne.symm hi)]
          simp only [Act.put, if_neg hi, this]
          exact h.get i

/-- What a guard asks. -/
def yb (tm : Tr Value) (ops : Array Oper) (j : Nat) : Option Bool :=
  match ops[j]? with
  | some o => (match o.dst with | some d => (match tm.find d with | some (.bool b) => some b | _ => none) | none => none)
  | none => none

theorem yb_sound {μ : Mu} {fr : Fr} {a : Act} (h : AR μ fr a) (ops : Array Oper) (j : Nat) : yielded ops a.tmps j = yb fr.tm ops j := by
  unfold yielded yb
  cases ho : ops[j]? with
  | none => rfl
  | some o =>
    simp only [Option.bind_some]
    cases hd : o.dst with
    | none => rfl
    | some d =>
      simp only [Option.bind_some]
      have hg := h.get d
      have e : a.tmps.getD d undef = (a.tmps[d]?).getD undef := Array.getD_eq_getD_getElem?
      rw [e] at hg
      cases ht : a.tmps[d]? with
      | none =>
        rw [ht] at hg
        simp only [Option.getD_none] at hg
        cases hf : fr.tm.find d with
        | none => rfl
        | some v => rw [hf] at hg; simp only [Option.getD_some] at hg; unfold undef at hg; cases hg; rfl
      | some v' =>
        rw [ht] at hg
        simp only [Option.getD_some] at hg
        cases hf : fr.tm.find d with
        | none => rw [hf] at hg; simp only [Option.getD_none] at hg; unfold undef at hg; cases hg; rfl
        | some v =>
          rw [hf] at hg
          simp only [Option.getD_some] at hg
          cases hg <;> rfl

def wantB (tm : Tr Value) (ops : Array Oper) (o : Oper) : Bool :=
  match o.guard with
  | none => true
  | some (j, want) => (match yb tm ops j with | some b => b == want | none => false)

theorem wantB_sound {μ : Mu} {fr : Fr} {a : Act} (h : AR μ fr a) (ops : Array Oper) (o : Oper) : Region.wanted o (yielded ops a.tmps) = wantB fr.tm ops o := by
  unfold Region.wanted wantB
  split
  · rename_i e; rw [e]
  · rename_i j want e
    rw [e]
    simp only [yb_sound h]
    cases yb fr.tm ops j with
    | none => rfl
    | some b => rfl

/-! One operation. -/
inductive Kd where
  | quiet | new | act | conv
def kind (o : Oper) : Kd :=
  match o.op with
  | .alloc _ | .box _ _ | .buildSlice _ _ _ => .new
  | .store _ _ _ | .makeSlice _ _ _ | .defer _ | .panic _ | .range _ _ | .next _ _ | .makeMap _ _ | .mapUpdate _ _ _ _ | .insert _ _ _ _ => .act
  | .call c => (match c.callee with | .builtin .append | .builtin .recover | .builtin .delete | .value _ => .act | _ => .quiet)
  | .convert _ _ _ | .binOp .quo _ _ _ _ => .conv
  | _ => .quiet

def evOp (P : Program) (ρ : Operand → Option Value) (h : Hp) (o : Oper) : Option (Res × Hp) :=
  match kind o with
  | .quiet => (match evQ P ρ h.rows o with | some v => some (.val v, h) | none => none)
  | .new =>
    match evA P ρ o with
    | some (cs, ak) => bif Nat.blt h.next Tr.top then some (.val (ak.mk h.next), ⟨h.rows.put h.next (some ⟨cs, false, .cells⟩), h.next + 1⟩) else none
    | none => none
  | .act => evE P ρ h o
  | .conv => (match evQ P ρ h.rows o with | some v => some (.val v, h) | none => evE P ρ h o)

section
variable {P : Program} {B : Base} {μ : Mu} {w : World} {ρ : Operand → Option Value} {ρ' : Operand → Value}

/-- A new row at a number that is free. -/
theorem new_sound {F : Nat → Option Row} {n n' q : Nat} (hw : WR B μ F n w) (hq : μ q = none) (hz : ¬ B.hole q) (hn : q < n') (hn' : n ≤ n') {o : Oper} {cs : List Value} {ak : AK} (hρ : ∀ x v, ρ x = some v → VR μ v (ρ' x)) (h : evA P ρ o = some (cs, ak)) :
    ∃ μ' w' v', Le μ μ' ∧ (∀ x, x ≠ q → μ' x = μ x) ∧ WR B μ' (setF F q (some ⟨cs, false, .cells⟩)) n' w' ∧ Keep μ F w μ' (setF F q (some ⟨cs, false, .cells⟩)) w' ∧ (execOp ρ' o).run P w = .ok (.value v') w' ∧ VR μ' (ak.mk q) v' := by
  obtain ⟨c, e, h1, h2, h3⟩ := evA_sound (w := w) hρ h
  have hlen : cs.length = c.size := by have := h2.1; simpa using this
  have hal := WR.alloc hw (q := q) (n' := n') hq hz hn hn' (cs := cs) (c := c) e (0, 0) (.inl rfl) (by rw [List.take_of_length_le (by simp; omega)]; exact h2) (by omega) (w.alloc (.cells c e)) rfl rfl rfl rfl
  refine ⟨setM μ q (w.heap.size, 0, c.size), _, _, le_setM hq _, fun x hx => by simp [setM, hx], hal.1, hal.2, h1, ?_⟩
  exact AK.rel (s := c.size) (by simp [setM]) (by omega) h3

theorem evOp_sound {h h' : Hp} (hw : WR B μ h.rows.find h.next w) {o : Oper} {r : Res} (hρ : ∀ x v, ρ x = some v → VR μ v (ρ' x)) (he : evOp P ρ h o = some (r, h')) :
    ∃ μ' w', Le μ μ' ∧ WR B μ' h'.rows.find h'.next w' ∧ Keep μ h.rows.find w μ' h'.rows.find w' ∧ Out μ' w' r ((execOp ρ' o).run P w) := by
  have q : ∀ v, evQ P ρ h.rows o = some v → ∃ μ' w', Le μ μ' ∧ WR B μ' h.rows.find h.next w' ∧ Keep μ h.rows.find w μ' h.rows.find w' ∧ Out μ' w' (.val v) ((execOp ρ' o).run P w) := by
    intro v hq
    obtain ⟨v', h1, h2⟩ := evQ_sound (P := P) hw hρ hq
    exact ⟨μ, w, Le.refl _, hw, Keep.refl _ _ _, v', h1, h2⟩
  unfold evOp at he
  split at he
  · split at he
    · rename_i v hq
      simp at he; obtain ⟨rfl, rfl⟩ := he
      exact q v hq
    · simp at he
  · split at he
    · rename_i cs ak ha
      cases hc : Nat.blt h.next Tr.top with
      | false => simp [hc] at he
      | true =>
        simp only [hc, cond_true, Option.some.injEq, Prod.mk.injEq] at he
        obtain ⟨rfl, rfl⟩ := he
        have c6 : h.next < Tr.top := Nat.le_of_ble_eq_true hc
        obtain ⟨μ', w', v', h1, _, h2, h3, h4, h5⟩ := new_sound hw (n' := h.next + 1) (hw.fresh _ (Nat.le_refl _)) (fun h0 => by have := (hw.hole _ h0).2; omega) (by omega) (by omega) hρ ha
        refine ⟨μ', w', h1, ?_, ?_, v', h4, h5⟩
        · rw [find_put_fun _ _ _ c6]; exact h2
        · rw [find_put_fun _ _ _ c6]; exact h3
    · simp at he
  · exact evE_sound hw hρ he
  · split at he
    · rename_i v hq
      simp at he; obtain ⟨rfl, rfl⟩ := he
      exact q v hq
    · exact evE_sound hw hρ he
end

/-! Panics. -/
def PR (μ : Mu) (p p' : PanicEntry) : Prop := VR μ p.v p'.v ∧ p.recovered = p'.recovered ∧ p.goexit = p'.goexit
def PRs (μ : Mu) : List PanicEntry → List PanicEntry → Prop
  | [], [] => True
  | p :: l, p' :: l' => PR μ p p' ∧ PRs μ l l'
  | _, _ => False
theorem PR.le {μ μ' : Mu} {p p' : PanicEntry} (h : PR μ p p') (hl : Le μ μ') : PR μ' p p' := ⟨h.1.le hl, h.2⟩
theorem PRs.le {μ μ' : Mu} : ∀ {l l' : List PanicEntry}, PRs μ l l' → Le μ μ' → PRs μ' l l' := by
  intro l
  induction l with
  | nil => intro l' h hl; cases l' <;> simp_all [PRs]
  | cons p l ih => intro l' h hl; cases l' with
    | nil => exact h.elim
    | cons p' l' => exact ⟨h.1.le hl, ih h.2 hl⟩
theorem PRs.append {μ : Mu} : ∀ {a a' b b' : List PanicEntry}, PRs μ a a' → PRs μ b b' → PRs μ (a ++ b) (a' ++ b') := by
  intro a
  induction a with
  | nil => intro a' b b' h k; cases a' with
    | nil => exact k
    | cons => exact h.elim
  | cons p l ih => intro a' b b' h k; cases a' with
    | nil => exact h.elim
    | cons p' l' => exact ⟨h.1, ih h.2 k⟩

def MR (μ : Mu) : FrameMode → FrameMode → Prop
  | .run, .run => True
  | .returning, .returning => True
  | .panicking c, .panicking c' => PRs μ c c'
  | _, _ => False
theorem MR.le {μ μ' : Mu} {m m' : FrameMode} (h : MR μ m m') (hl : Le μ μ') : MR μ' m m' := by
  cases m <;> cases m' <;> simp_all [MR]
  exact PRs.le h hl

inductive Ex where
  | normal
  | exit (id : Nat)
  | ret
  | panic (c : List PanicEntry)

def ER (μ : Mu) : Ex → Exit → Prop
  | .normal, .normal => True
  | .exit i, .exit j => i = j
  | .ret, .ret => True
  | .panic c, .panic c' => PRs μ c c'
  | _, _ => False
theorem ER.le {μ μ' : Mu} {e : Ex} {e' : Exit} (h : ER μ e e') (hl : Le μ μ') : ER μ' e e' := by
  cases e <;> cases e' <;> simp_all [ER]
  exact PRs.le h hl

inductive End where
  | ret (v : Value)
  | pan (c : List PanicEntry)
def EnR (μ : Mu) : End → Ending → Prop
  | .ret v, .returned v' => VR μ v v'
  | .pan c, .panicked c' => PRs μ c c'
  | _, _ => False
theorem EnR.le {μ μ' : Mu} {e : End} {e' : Ending} (h : EnR μ e e') (hl : Le μ μ') : EnR μ' e e' := by
  cases e <;> cases e' <;> simp_all [EnR]
  · exact VR.le h hl
  · exact PRs.le h hl

/-- The frames below: as they were, or, for a deferred call, the one that defers with another mode. -/
def CR (μ : Mu) (u : Option FrameMode) (cs cs' : List Frame) : Prop :=
  match u with
  | none => cs' = cs
  | some m => ∃ c rest m', cs = c :: rest ∧ cs' = { c with mode := m' } :: rest ∧ MR μ m m'
theorem CR.le {μ μ' : Mu} {u : Option FrameMode} {cs cs' : List Frame} (h : CR μ u cs cs') (hl : Le μ μ') : CR μ' u cs cs' := by
  cases u with
  | none => exact h
  | some m => obtain ⟨c, rest, m', h1, h2, h3⟩ := h; exact ⟨c, rest, m', h1, h2, h3.le hl⟩
end Go.Ev

/-
  The evaluator, tenth part: rules for one goroutine's steps with the frames below in sight; a row of operations in the text's order.
-/
namespace Go.Ev
open Go.RowKit

def WI (P : Program) (kd : CallKind) (it : Item) (Q : Exit → Act → List Frame → World → Prop) (a : Act) (cs : List Frame) (w : World) : Prop :=
  ∀ (b : Frame) (k : List Item), b.kind = kd → ∃ e a' cs' w', Q e a' cs' w' ∧ Arrives P (lone (b.at a (it :: k)) cs w) b k cs' e a' w'

section rules
variable {P : Program} {kd : CallKind} {Q : Exit → Act → List Frame → World → Prop} {a : Act} {cs : List Frame} {w : World}

theorem wi_mono {it : Item} {Q' : Exit → Act → List Frame → World → Prop} (h : WI P kd it Q a cs w) (hq : ∀ e a cs w, Q e a cs w → Q' e a cs w) : WI P kd it Q' a cs w :=
  fun b k hb => let ⟨e, a', cs', w', q, r⟩ := h b k hb; ⟨e, a', cs', w', hq _ _ _ _ q, r⟩

theorem wi_of_wp {c : Code} (h : c.wp P (fun e a' w' => Q e a' cs w') a w) : WI P kd (.code c) Q a cs w :=
  fun b k _ => let ⟨e, a', w', q, r⟩ := h b k cs; ⟨e, a', cs, w', q, r⟩

theorem wi_skip (h : Q .normal a cs w) : WI P kd (.code .skip) Q a cs w := fun _ _ _ => ⟨.normal, a, cs, w, h, .one step_skip⟩
theorem wi_ret (h : Q .ret a cs w) : WI P kd (.code .ret) Q a cs w := fun _ _ _ => ⟨.ret, a, cs, w, h, _, .one step_ret⟩
theorem wi_exit {id : Nat} (h : Q (.exit id) a cs w) : WI P kd (.code (.exit id)) Q a cs w := fun _ _ _ => ⟨.exit id, a, cs, w, h, fun _ hk => .one (step_exit hk)⟩

def Then (K : Act → List Frame → World → Prop) (Q : Exit → Act → List Frame → World → Prop) : Exit → Act → List Frame → World → Prop
  | .normal, a, cs, w => K a cs w
  | e, a, cs, w => Q e a cs w

theorem wi_seq {x y : Code} (h : WI P kd (.code x) (Then (WI P kd (.code y) Q) Q) a cs w) : WI P kd (.code (.seq x y)) Q a cs w := by
  intro b k hb
  obtain ⟨e, a₁, cs₁, w₁, hq, harr⟩ := h b (.code y :: k) hb
  cases e with
  | normal =>
    obtain ⟨e₂, a₂, cs₂, w₂, hq₂, harr₂⟩ := hq b k hb
    exact ⟨e₂, a₂, cs₂, w₂, hq₂, .of_steps (.head step_seq harr) harr₂⟩
  | exit id => exact ⟨_, a₁, cs₁, w₁, hq, .of_steps (.one step_seq) (.pass (x := .code y) rfl (fun _ _ => .inl (by simp)) harr)⟩
  | goto l => exact ⟨_, a₁, cs₁, w₁, hq, .of_steps (.one step_seq) (.pass (x := .code y) rfl (fun _ _ => .inl (by simp)) harr)⟩
  | ret => exact ⟨_, a₁, cs₁, w₁, hq, .of_steps (.one step_seq) (.pass (x := .code y) rfl (fun _ _ => .inl (by simp)) harr)⟩
  | panic ch => exact ⟨_, a₁, cs₁, w₁, hq, .of_steps (.one step_seq) (.pass (x := .code y) rfl (fun _ _ => .inl (by simp)) harr)⟩
  | outgrown => exact ⟨_, a₁, cs₁, w₁, hq, .of_steps (.one step_seq) (.pass (x := .code y) rfl (fun _ _ => .inl (by simp)) harr)⟩

theorem wi_cond {c : Operand} {x y : Code} {t : Bool} (hc : a.eval c = .bool t) (h : WI P kd (.code (if t then x else y)) Q a cs w) : WI P kd (.code (.cond c x y)) Q a cs w :=
  fun b k hb => let ⟨e, a', cs', w', q, r⟩ := h b k hb; ⟨e, a', cs', w', q, .of_steps (.one (step_cond hc)) r⟩

def InBlock (id : Nat) (Q : Exit → Act → List Frame → World → Prop) : Exit → Act → List Frame → World → Prop
  | .exit id', a, cs, w => if id' = id then Q .normal a cs w else Q (.exit id') a cs w
  | e, a, cs, w => Q e a cs w

theorem wi_block {id : Nat} {c : Code} (h : WI P kd (.code c) (InBlock id Q) a cs w) : WI P kd (.code (.block id c)) Q a cs w := by
  intro b k hb
  obtain ⟨e, a₁, cs₁, w₁, hq, harr⟩ := h b (.inBlock id :: k) hb
  cases e with
  | normal => exact ⟨.normal, a₁, cs₁, w₁, hq, .head step_block (Steps.trans harr (.one step_inBlock))⟩
  | exit id' =>
    by_cases hid : id' = id
    · simp only [InBlock, hid, if_true] at hq
      exact ⟨.normal, a₁, cs₁, w₁, hq, .head step_block (harr k (by simp [exitTo, hid]))⟩
    · simp only [InBlock, hid, if_false] at hq
      refine ⟨.exit id', a₁, cs₁, w₁, hq, fun k' hk => .head step_block (harr k' ?_)⟩
      have : (id == id') = false := by simp; exact fun h => hid h.symm
      simp [exitTo, this, hk]
  | goto l => exact ⟨_, a₁, cs₁, w₁, hq, fun k' hk => .head step_block (harr k' (by simp [gotoIn, hk]))⟩
  | ret => exact ⟨_, a₁, cs₁, w₁, hq, .of_steps (.one step_block) harr⟩
  | panic ch => exact ⟨_, a₁, cs₁, w₁, hq, .of_steps (.one step_block) harr⟩
  | outgrown => exact ⟨_, a₁, cs₁, w₁, hq, .of_steps (b := b) (k := k) (cs := cs₁) (e := .outgrown) (.one step_block) harr⟩

theorem wi_round {c : Code} {it : Item} (hit : it = .code (.loop c) ∨ it = .inLoop c) (h : WI P kd (.code c) (Then (WI P kd (.inLoop c) Q) Q) a cs w) : WI P kd it Q a cs w := by
  intro b k hb
  have first : ∀ {cs : List Frame} {w : World}, step P (lone (b.at a (it :: k)) cs w) = .next (lone (b.at a (.code c :: .inLoop c :: k)) cs w) := by
    intro cs w
    rcases hit with rfl | rfl
    · exact step_loop
    · exact step_inLoop
  obtain ⟨e, a₁, cs₁, w₁, hq, harr⟩ := h b (.inLoop c :: k) hb
  cases e with
  | normal =>
    obtain ⟨e₂, a₂, cs₂, w₂, hq₂, harr₂⟩ := hq b k hb
    exact ⟨e₂, a₂, cs₂, w₂, hq₂, .of_steps (.head first harr) harr₂⟩
  | exit id => exact ⟨_, a₁, cs₁, w₁, hq, .of_steps (.one first) (.pass (x := .inLoop c) rfl (fun _ _ => .inl (by simp)) harr)⟩
  | goto l => exact ⟨_, a₁, cs₁, w₁, hq, .of_steps (.one first) (.pass (x := .inLoop c) rfl (fun _ _ => .inl (by simp)) harr)⟩
  | ret => exact ⟨_, a₁, cs₁, w₁, hq, .of_steps (.one first) (.pass (x := .inLoop c) rfl (fun _ _ => .inl (by simp)) harr)⟩
  | panic ch => exact ⟨_, a₁, cs₁, w₁, hq, .of_steps (.one first) (.pass (x := .inLoop c) rfl (fun _ _ => .inl (by simp)) harr)⟩
  | outgrown => exact ⟨_, a₁, cs₁, w₁, hq, .of_steps (.one first) (.pass (x := .inLoop c) rfl (fun _ _ => .inl (by simp)) harr)⟩

theorem wi_region {id : Nat} {ops : Array Oper} (h : WI P kd (.inRegion ops (List.range ops.size)) Q a cs w) : WI P kd (.code (.region id ops false)) Q a cs w :=
  fun b k hb => let ⟨e, a', cs', w', q, r⟩ := h b k hb; ⟨e, a', cs', w', q, .of_steps (.one step_region) r⟩

theorem wi_end {ops : Array Oper} (h : Q .normal a cs w) : WI P kd (.inRegion ops []) Q a cs w := fun _ _ _ => ⟨.normal, a, cs, w, h, .one step_region_end⟩

section op
variable {ops : Array Oper} {i : Nat} {rest : List Nat} {o : Oper}

theorem wi_unwanted (ho : ops[i]? = some o) (hw : Region.wanted o (yielded ops a.tmps) = false) (h : WI P kd (.inRegion ops rest) Q (a.put o.dst undef) cs w) : WI P kd (.inRegion ops (i :: rest)) Q a cs w := by
  intro b k hb
  obtain ⟨e, a', cs', w', hq, harr⟩ := h b k hb
  have hs := step_op_skip (P := P) (b := b) (a := a) (k := k) (cs := cs) (w := w) (ops := ops) (i := i) (rest := rest) (by simp [ho, hw])
  simp only [ho, Option.bind_some] at hs
  exact ⟨e, a', cs', w', hq, .of_steps (.one hs) harr⟩

/-- The step of one operation that is wanted. -/
theorem op_step (ho : ops[i]? = some o) (hw : Region.wanted o (yielded ops a.tmps) = true) {b : Frame} {k : List Item} {w1 : World} {fr' : Frame} {cs' : List Frame}
    (h : (stepG.apply P true (b.at a (.inRegion ops (i :: rest) :: k)) cs none (execOp a.eval o) w).bare = .go { frame := fr', callers := cs', status := .running, dying := none } w1) :
    step P (lone (b.at a (.inRegion ops (i :: rest) :: k)) cs w) = .next (lone fr' cs' w1) :=
  step_lone_go (by rw [stepG_op (P := P) (b := b) (k := k) (cs := cs) (w := w) (rest := rest) ho hw]; exact h)

theorem fin_at (ho : ops[i]? = some o) (b : Frame) (k : List Item) (v : Value) : (b.at a (.inRegion ops (i :: rest) :: k)).finish v = b.at (a.put o.dst v) (.inRegion ops rest :: k) := by
  rw [Frame.finish_at, ho]; rfl

theorem wi_value (ho : ops[i]? = some o) (hw : Region.wanted o (yielded ops a.tmps) = true) {v : Value} {w1 : World} (hr : (execOp a.eval o).run P w = .ok (.value v) w1)
    (h : WI P kd (.inRegion ops rest) Q (a.put o.dst v) cs w1) : WI P kd (.inRegion ops (i :: rest)) Q a cs w := by
  intro b k hb
  obtain ⟨e, a', cs', w', hq, harr⟩ := h b k hb
  refine ⟨e, a', cs', w', hq, .of_steps (.one (op_step ho hw ?_)) harr⟩
  rw [← fin_at ho]; simp [stepG.apply, hr]

theorem wi_opskip (ho : ops[i]? = some o) (hw : Region.wanted o (yielded ops a.tmps) = true) {w1 : World} (hr : (execOp a.eval o).run P w = .ok .skip w1)
    (h : WI P kd (.inRegion ops rest) Q (a.put o.dst undef) cs w1) : WI P kd (.inRegion ops (i :: rest)) Q a cs w := by
  intro b k hb
  obtain ⟨e, a', cs', w', hq, harr⟩ := h b k hb
  refine ⟨e, a', cs', w', hq, .of_steps (.one (op_step ho hw ?_)) harr⟩
  rw [← fin_at ho]; simp [stepG.apply, hr]

theorem wi_defer (ho : ops[i]? = some o) (hw : Region.wanted o (yielded ops a.tmps) = true) {d : Deferred} {w1 : World} (hr : (execOp a.eval o).run P w = .ok (.defer d) w1)
    (h : WI P kd (.inRegion ops rest) Q ({ a with defers := d :: a.defers }.put o.dst undef) cs w1) : WI P kd (.inRegion ops (i :: rest)) Q a cs w := by
  intro b k hb
  obtain ⟨e, a', cs', w', hq, harr⟩ := h b k hb
  refine ⟨e, a', cs', w', hq, .of_steps (.one (op_step ho hw ?_)) harr⟩
  have : ({ b.at a (.inRegion ops (i :: rest) :: k) with defers := d :: a.defers } : Frame).finish undef =
      b.at ({ a with defers := d :: a.defers }.put o.dst undef) (.inRegion ops rest :: k) := by
    have := Frame.finish_at b { a with defers := d :: a.defers } ops i rest k undef
    rw [ho] at this; exact this
  simp only [stepG.apply, Sem.runT_eq, hr, GStep.bare_after]
  exact congrArg (fun fr => GStep.go { frame := fr, callers := cs, status := .running, dying := none } w1) this

theorem wi_panic (ho : ops[i]? = some o) (hw : Region.wanted o (yielded ops a.tmps) = true) {v : Value} {w1 : World} (hr : (execOp a.eval o).run P w = .halt (.panic v) w1)
    (h : Q (.panic [{ v, recovered := false }]) a cs w1) : WI P kd (.inRegion ops (i :: rest)) Q a cs w := by
  intro b k hb
  refine ⟨_, a, cs, w1, h, .inRegion ops (i :: rest) :: k, .one (op_step ho hw ?_)⟩
  rw [← Frame.raise_at]; simp [stepG.apply, hr]

theorem wi_enter (ho : ops[i]? = some o) (hw : Region.wanted o (yielded ops a.tmps) = true) {f : FuncId} {args : Array Value} {w1 : World} (hr : (execOp a.eval o).run P w = .ok (.enter f args) w1)
    {R : Ending → World → Prop} (hc : Calls P f args w1 R) (hnog : ∀ w, ¬ R .outgrown w) (h1 : ∀ v w', R (.returned v) w' → WI P kd (.inRegion ops rest) Q (a.put o.dst v) cs w') (h2 : ∀ c w', R (.panicked c) w' → Q (.panic c) a cs w') :
    WI P kd (.inRegion ops (i :: rest)) Q a cs w := by
  intro b k hb
  obtain ⟨e, w'', fr, hR, hsteps, _, hleave⟩ := hc (b.at a (.inRegion ops (i :: rest) :: k) :: cs)
  have henter : step P (lone (b.at a (.inRegion ops (i :: rest) :: k)) cs w) = .next (lone (Frame.enter P f args .normal) (b.at a (.inRegion ops (i :: rest) :: k) :: cs) w1) :=
    op_step ho hw (by simp [stepG.apply, hr, Frame.at])
  cases e with
  | returned v =>
    obtain ⟨e, a', cs'', w₃, hq, harr⟩ := h1 v w'' hR b k hb
    refine ⟨e, a', cs'', w₃, hq, .of_steps (.head henter (hsteps.trans (.one ?_))) harr⟩
    rw [← fin_at ho]; exact step_leave_returned hleave
  | panicked chain =>
    refine ⟨.panic chain, a, cs, w'', h2 chain w'' hR, .inRegion ops (i :: rest) :: k, .head henter (hsteps.trans (.one ?_))⟩
    rw [← Frame.raise_at]; exact step_leave_panicked hleave
  | outgrown => exact absurd hR (hnog _)

theorem wi_recover (ho : ops[i]? = some o) (hw : Region.wanted o (yielded ops a.tmps) = true) (hkd : kd = .deferred) {w1 : World} (hr : (execOp a.eval o).run P w = .ok .recover w1) {v : Value} {cs1 : List Frame}
    (hrec : (recoverD cs).getD (.nilIface, cs) = (v, cs1)) (h : WI P kd (.inRegion ops rest) Q (a.put o.dst v) cs1 w1) : WI P kd (.inRegion ops (i :: rest)) Q a cs w := by
  intro b k hb
  have hk : (b.at a (.inRegion ops (i :: rest) :: k)).kind = .deferred := by simp [Frame.at, hb, hkd]
  have htr := tryRecover_deferred hk cs
  obtain ⟨e, a', cs', w', hq, harr⟩ := h b k hb
  refine ⟨e, a', cs', w', hq, .of_steps (.one (op_step ho hw ?_)) harr⟩
  rw [← fin_at ho]
  simp only [Frame.at] at htr ⊢
  cases hd : recoverD cs with
  | none => rw [hd] at hrec; simp at hrec; obtain ⟨rfl, rfl⟩ := hrec; simp [stepG.apply, hr, htr, hd]
  | some p => obtain ⟨v0, c0⟩ := p; rw [hd] at hrec; simp at hrec; obtain ⟨rfl, rfl⟩ := hrec; simp [stepG.apply, hr, htr, hd]
end op
end rules

/-! ### In the text's order -/
abbrev CallF := FuncId → List Value → Hp → Option (End × Hp)

def evSeq (P : Program) (call : CallF) (ops : Array Oper) : List Oper → Fr → Option FrameMode → Hp → Option (Ex × Fr × Option FrameMode × Hp)
  | [], fr, u, h => some (.normal, fr, u, h)
  | o :: rest, fr, u, h =>
    match wantB fr.tm ops o with
    | false => putFr fr o.dst undef fun fr => evSeq P call ops rest fr u h
    | true =>
      match evOp P (opV fr.tm) h o with
      | none => none
      | some (r, h) => nfHp h fun h =>
        match r with
        | .val v => nfK v fun v => putFr fr o.dst v fun fr => evSeq P call ops rest fr u h
        | .skip => putFr fr o.dst undef fun fr => evSeq P call ops rest fr u h
        | .defer d => putFr ⟨fr.tm, fr.nt, d :: fr.df⟩ o.dst undef fun fr => evSeq P call ops rest fr u h
        | .panic v => some (.panic [{ v, recovered := false }], fr, u, h)
        | .enter f args =>
          match call f args h with
          | some (.ret v, h) => nfHp h fun h => nfK v fun v => putFr fr o.dst v fun fr => evSeq P call ops rest fr u h
          | some (.pan c, h) => some (.panic c, fr, u, h)
          | none => none
        | .recov =>
          match u with
          | none => none
          | some (.panicking ({ v, recovered := false, goexit := false } :: older)) =>
            putFr fr o.dst v fun fr => evSeq P call ops rest fr (some (.panicking ({ v, recovered := true } :: older))) h
          | some m => putFr fr o.dst .nilIface fun fr => evSeq P call ops rest fr (some m) h

/-- The state, there and here. -/
structure SR (B : Base) (μ0 : Mu) (F0 : Nat → Option Row) (w0 : World) (cs0 : List Frame) (kd : CallKind) (μ : Mu) (fr : Fr) (u : Option FrameMode) (h : Hp) (a : Act) (cs : List Frame) (w : World) : Prop where
  ar : AR μ fr a
  wr : WR B μ h.rows.find h.next w
  kp : Keep μ0 F0 w0 μ h.rows.find w
  le : Le μ0 μ
  cr : CR μ u cs0 cs
  kdef : u.isSome = true → kd = .deferred

def Post (B : Base) (μ0 : Mu) (F0 : Nat → Option Row) (w0 : World) (cs0 : List Frame) (kd : CallKind) (x : Ex × Fr × Option FrameMode × Hp) (e : Exit) (a : Act) (cs : List Frame) (w : World) : Prop :=
  ∃ μ, SR B μ0 F0 w0 cs0 kd μ x.2.1 x.2.2.1 x.2.2.2 a cs w ∧ ER μ x.1 e ∧ (x.2.2.1.isSome = true → kd = .deferred)

/-- A call, there and here. -/
def CallsOk (P : Program) (call : CallF) : Prop :=
  ∀ (B : Base) f args h r h' μ w (args' : Array Value), call f args h = some (r, h') → WR B μ h.rows.find h.next w → VRs μ args args'.toList → okFn P f = true →
    Calls P f args' w fun e w' => ∃ μ', Le μ μ' ∧ WR B μ' h'.rows.find h'.next w' ∧ Keep μ h.rows.find w μ' h'.rows.find w' ∧ EnR μ' r e

theorem evE_okFn {P : Program} {ρ : Operand → Option Value} {h h' : Hp} {o : Oper} {f : FuncId} {args : List Value} (he : evOp P ρ h o = some (.enter f args, h')) : okFn P f = true := by
  have aux : evE P ρ h o = some (.enter f args, h') → okFn P f = true := by
    intro he
    have no : asRes (evX P ρ h o) = some (.enter f args, h') → okFn P f = true := by
      intro he
      rcases asRes_inv he with ⟨v, _, hr⟩ | ⟨_, hr⟩ <;> simp at hr
    unfold evE at he
    (repeat' split at he) <;> first | exact no he | simp at he
    rename_i hc _ fid a b d hm
    obtain ⟨⟨rfl, _⟩, _⟩ := he
    unfold aCall at hm
    split at hm
    · rename_i fid' first cap l h1 h2
      cases hk : okFn P fid' with
      | false => simp [hk] at hm
      | true => simp [hk] at hm; rw [← hm.1]; exact hk
    · simp at hm
  unfold evOp at he
  (repeat' split at he) <;> first
    | exact aux he
    | (simp at he; done)
    | skip
  rename_i cs ak _
  cases hc : Nat.blt h.next Tr.top <;> simp [hc] at he

theorem CR.next {μ μ' : Mu} {u : Option FrameMode} {cs0 cs : List Frame} (h : CR μ u cs0 cs) (hl : Le μ μ') : CR μ' u cs0 cs := h.le hl

theorem recov_some {μ : Mu} {m : FrameMode} {cs0 cs : List Frame} (h : CR μ (some m) cs0 cs) {v : Value} {older : List PanicEntry} (hm : m = .panicking ({ v, recovered := false, goexit := false } :: older)) :
    ∃ v' cs1, (recoverD cs).getD (.nilIface, cs) = (v', cs1) ∧ VR μ v v' ∧ CR μ (some (.panicking ({ v, recovered := true } :: older))) cs0 cs1 := by
  subst hm
  obtain ⟨c, rest, m', rfl, rfl, h3⟩ := h
  cases m' with
  | run => exact h3.elim
  | returning => exact h3.elim
  | panicking l =>
    cases l with
    | nil => exact h3.elim
    | cons p l =>
      obtain ⟨v', rc, gx⟩ := p
      obtain ⟨⟨p1, p2, p3⟩, p4⟩ := h3
      simp at p1 p2 p3
      subst p2; subst p3
      exact ⟨v', { c with mode := .panicking ({ v := v', recovered := true } :: l) } :: rest, by simp [recoverD], p1, c, rest, _, rfl, rfl, ⟨p1, rfl, rfl⟩, p4⟩

theorem recov_none {μ : Mu} {m : FrameMode} {cs0 cs : List Frame} (h : CR μ (some m) cs0 cs) (hm : ∀ v older, m ≠ .panicking ({ v, recovered := false, goexit := false } :: older)) :
    (recoverD cs).getD (.nilIface, cs) = (.nilIface, cs) := by
  obtain ⟨c, rest, m', rfl, rfl, h3⟩ := h
  cases m' with
  | run => simp [recoverD]
  | returning => simp [recoverD]
  | panicking l =>
    cases l with
    | nil => simp [recoverD]
    | cons p l =>
      obtain ⟨v', rc, gx⟩ := p
      cases m with
      | run => exact h3.elim
      | returning => exact h3.elim
      | panicking l0 =>
        cases l0 with
        | nil => exact h3.elim
        | cons q l0 =>
          obtain ⟨v0, rc0, gx0⟩ := q
          obtain ⟨⟨p1, p2, p3⟩, p4⟩ := h3
          simp at p2 p3
          subst p2; subst p3
          cases rc0 <;> cases gx0 <;> simp [recoverD]
          exact absurd rfl (hm _ _)

theorem evSeq_sound {P : Program} {B : Base} {call : CallF} (hcall : CallsOk P call) {ops : Array Oper} {μ0 : Mu} {F0 : Nat → Option Row} {w0 : World} {cs0 : List Frame} {kd : CallKind} {x : Ex × Fr × Option FrameMode × Hp} :
    ∀ (l : List Oper) (i : Nat) (fr : Fr) (u : Option FrameMode) (h : Hp) (μ : Mu) (a : Act) (cs : List Frame) (w : World), ops.toList.drop i = l → evSeq P call ops l fr u h = some x →
      SR B μ0 F0 w0 cs0 kd μ fr u h a cs w → WI P kd (.inRegion ops (List.range' i l.length)) (Post B μ0 F0 w0 cs0 kd x) a cs w := by
  intro l
  induction l with
  | nil =>
    intro i fr u h μ a cs w _ he hs
    simp [evSeq] at he; subst he
    exact wi_end ⟨μ, hs, trivial, hs.kdef⟩
  | cons o rest ih =>
    intro i fr u h μ a cs w hd he hs
    have ho : ops[i]? = some o := by
      have : (ops.toList.drop i)[0]? = some o := by rw [hd]; rfl
      rw [List.getElem?_drop] at this
      simpa using this
    have hd' : ops.toList.drop (i + 1) = rest := by
      have : (ops.toList.drop i).drop 1 = rest := by rw [hd]; rfl
      rwa [List.drop_drop] at this
    simp only [List.length_cons, List.range'_succ]
    unfold evSeq at he
    split at he
    · rename_i hw
      obtain ⟨fr', har, hk, _⟩ := putFr_sound hs.ar (VR.undef μ) he
      refine wi_unwanted ho (by rw [wantB_sound hs.ar]; exact hw) ?_
      exact ih (i + 1) fr' u h μ _ cs w hd' hk ⟨har, hs.wr, hs.kp, hs.le, hs.cr, hs.kdef⟩
    · rename_i hw
      have hw' : Region.wanted o (yielded ops a.tmps) = true := by rw [wantB_sound hs.ar]; exact hw
      split at he
      · simp at he
      · rename_i r h1 hop
        rw [nfHp_eq] at he
        obtain ⟨μ1, w1, l1, wr1, kp1, out1⟩ := evOp_sound hs.wr (opV_sound hs.ar) hop
        have kp' := hs.kp.trans kp1
        have le' := hs.le.trans l1
        have ar' := hs.ar.le l1
        have cr' := hs.cr.le l1
        split at he
        · rename_i v
          rw [nfK_eq] at he
          obtain ⟨v', hr, hv⟩ := out1
          obtain ⟨fr', har, hk, _⟩ := putFr_sound ar' hv he
          exact wi_value ho hw' hr (ih (i + 1) fr' u h1 μ1 _ cs w1 hd' hk ⟨har, wr1, kp', le', cr', hs.kdef⟩)
        · obtain ⟨fr', har, hk, _⟩ := putFr_sound ar' (VR.undef μ1) he
          exact wi_opskip ho hw' out1 (ih (i + 1) fr' u h1 μ1 _ cs w1 hd' hk ⟨har, wr1, kp', le', cr', hs.kdef⟩)
        · rename_i d
          obtain ⟨d', hr, hdr⟩ := out1
          have ard : AR μ1 ⟨fr.tm, fr.nt, d :: fr.df⟩ { a with defers := d' :: a.defers } := by
            refine ⟨ar'.size, ar'.get, by simp [ar'.dlen], fun j e e' he1 he2 => ?_⟩
            cases j with
            | zero => simp at he1 he2; subst he1; subst he2; exact hdr
            | succ j => simp at he1 he2; exact ar'.dget j e e' he1 he2
          obtain ⟨fr', har, hk, _⟩ := putFr_sound ard (VR.undef μ1) he
          exact wi_defer ho hw' hr (ih (i + 1) fr' u h1 μ1 _ cs w1 hd' hk ⟨har, wr1, kp', le', cr', hs.kdef⟩)
        · rename_i v
          obtain ⟨v', hr, hv⟩ := out1
          simp at he; subst he
          exact wi_panic ho hw' hr ⟨μ1, ⟨ar', wr1, kp', le', cr', hs.kdef⟩, ⟨⟨hv, rfl, rfl⟩, trivial⟩, hs.kdef⟩
        · rename_i f args
          obtain ⟨args', hr, hargs⟩ := out1
          have hok := evE_okFn hop
          split at he
          · rename_i v h2 hc
            rw [nfHp_eq, nfK_eq] at he
            have hcalls := hcall B f args h1 _ h2 μ1 w1 args' hc wr1 hargs hok
            refine wi_enter ho hw' hr hcalls (fun w hb => by obtain ⟨_, _, _, _, hb⟩ := hb; exact hb) (fun v' w2 hR => ?_) (fun c w2 hR => ?_)
            · obtain ⟨μ2, l2, wr2, kp2, hv⟩ := hR
              obtain ⟨fr', har, hk, _⟩ := putFr_sound (ar'.le l2) hv he
              exact ih (i + 1) fr' u h2 μ2 _ cs w2 hd' hk ⟨har, wr2, kp'.trans kp2, le'.trans l2, cr'.le l2, hs.kdef⟩
            · obtain ⟨_, _, _, _, hb⟩ := hR; exact hb.elim
          · rename_i c h2 hc
            simp at he; subst he
            have hcalls := hcall B f args h1 _ h2 μ1 w1 args' hc wr1 hargs hok
            refine wi_enter ho hw' hr hcalls (fun w hb => by obtain ⟨_, _, _, _, hb⟩ := hb; exact hb) (fun v' w2 hR => ?_) (fun c w2 hR => ?_)
            · obtain ⟨_, _, _, _, hb⟩ := hR; exact hb.elim
            · obtain ⟨μ2, l2, wr2, kp2, hv⟩ := hR
              exact ⟨μ2, ⟨ar'.le l2, wr2, kp'.trans kp2, le'.trans l2, cr'.le l2, hs.kdef⟩, hv, hs.kdef⟩
          · simp at he
        · split at he
          · simp at he
          · rename_i v older
            obtain ⟨v', cs1, hrec, hv, hcr⟩ := recov_some cr' rfl
            obtain ⟨fr', har, hk, _⟩ := putFr_sound ar' hv he
            exact wi_recover ho hw' (hs.kdef rfl) out1 hrec (ih (i + 1) fr' _ h1 μ1 _ cs1 w1 hd' hk ⟨har, wr1, kp', le', hcr, fun _ => hs.kdef rfl⟩)
          · rename_i m hne
            obtain ⟨fr', har, hk, _⟩ := putFr_sound ar' VR.nilIface he
            exact wi_recover ho hw' (hs.kdef rfl) out1 (recov_none cr' (fun v older e => hne v older e)) (ih (i + 1) fr' _ h1 μ1 _ cs w1 hd' hk ⟨har, wr1, kp', le', cr', hs.kdef⟩)
end Go.Ev

/-
  The evaluator, eleventh part: rows of operations whose order is open. They are gone through in the text's order; what is read is looked at again at every stage at which another order might read it.
-/
namespace Go.Ev
open Go.RowKit

/-! ### Which operations must lie before -/
def orAll (acc : List Nat) : List Edge → Nat
  | [] => 0
  | e :: r => bif Region.binds .any e then Nat.lor (Nat.lor (Nat.shiftLeft 1 e.on) (acc.getD e.on 0)) (orAll acc r) else orAll acc r

def masksFrom : List Oper → List Nat → List Nat
  | [], acc => acc
  | o :: r, acc => masksFrom r (acc ++ [orAll acc o.after.toList])
def masks (l : List Oper) : List Nat := masksFrom l []

theorem orAll_bit (acc : List Nat) : ∀ (l : List Edge) (j : Nat), (orAll acc l).testBit j = true → ∃ e ∈ l, Region.binds .any e = true ∧ (e.on = j ∨ (acc.getD e.on 0).testBit j = true) := by
  intro l
  induction l with
  | nil => intro j h; simp [orAll] at h
  | cons e r ih =>
    intro j h
    simp only [orAll] at h
    cases hb : Region.binds .any e with
    | false =>
      simp only [hb, cond_false] at h
      obtain ⟨x, hx, h2⟩ := ih j h
      exact ⟨x, by simp [hx], h2⟩
    | true =>
      simp only [hb, cond_true] at h
      have hor : ∀ a b : Nat, (Nat.lor a b).testBit j = (a.testBit j || b.testBit j) := fun a b => Nat.testBit_or a b j
      rw [hor, hor] at h
      simp only [Bool.or_eq_true] at h
      rcases h with (h | h) | h
      · refine ⟨e, by simp, hb, .inl ?_⟩
        have : Nat.shiftLeft 1 e.on = 2 ^ e.on := by
          show 1 <<< e.on = _
          rw [Nat.shiftLeft_eq, Nat.one_mul]
        rw [this, Nat.testBit_two_pow] at h
        simpa using h
      · exact ⟨e, by simp, hb, .inr h⟩
      · obtain ⟨x, hx, h2⟩ := ih j h
        exact ⟨x, by simp [hx], h2⟩

theorem masksFrom_spec : ∀ (l : List Oper) (acc : List Nat), ∃ x, masksFrom l acc = acc ++ x ∧ x.length = l.length ∧ ∀ (i : Nat) o, l[i]? = some o → x[i]? = some (orAll (acc ++ x.take i) o.after.toList) := by
  intro l
  induction l with
  | nil => intro acc; exact ⟨[], by simp [masksFrom], rfl, fun i o h => by simp at h⟩
  | cons o r ih =>
    intro acc
    obtain ⟨x, h1, h2, h3⟩ := ih (acc ++ [orAll acc o.after.toList])
    refine ⟨orAll acc o.after.toList :: x, by simp [masksFrom, h1], by simp [h2], fun i o' h => ?_⟩
    cases i with
    | zero => simp at h; subst h; simp
    | succ i =>
      simp at h
      have := h3 i o' h
      simpa using this

def mk (ms : List Nat) (i : Nat) : Nat := ms.getD i 0

theorem masks_get {l : List Oper} {i : Nat} {o : Oper} (h : l[i]? = some o) {j : Nat} (hj : (mk (masks l) i).testBit j = true) :
    ∃ e ∈ o.after.toList, Region.binds .any e = true ∧ (e.on = j ∨ (e.on < i ∧ (mk (masks l) e.on).testBit j = true)) := by
  obtain ⟨x, h1, h2, h3⟩ := masksFrom_spec l []
  have hx := h3 i o h
  simp only [List.nil_append] at hx h1
  have hm : masks l = x := h1
  rw [hm] at hj ⊢
  unfold mk at hj ⊢
  simp only [List.getD_eq_getElem?_getD, hx, Option.getD_some] at hj
  obtain ⟨e, he, hb, hor⟩ := orAll_bit _ _ _ hj
  refine ⟨e, he, hb, ?_⟩
  rcases hor with hor | hor
  · exact .inl hor
  · right
    rw [List.getD_eq_getElem?_getD, List.getElem?_take] at hor
    split at hor
    · rename_i hlt; exact ⟨hlt, by rw [List.getD_eq_getElem?_getD]; exact hor⟩
    · simp at hor

/-- What must lie before lies before, in whatever has been done by the edges. -/
theorem masks_down {l : List Oper} {D : Nat → Prop} (hD : ∀ (i : Nat) o e, l[i]? = some o → D i → e ∈ o.after.toList → Region.binds .any e = true → D e.on) :
    ∀ (i j : Nat), i < l.length → D i → (mk (masks l) i).testBit j = true → D j := by
  intro i
  induction i using Nat.strongRecOn with
  | _ i ih =>
    intro j hi hd hb
    obtain ⟨o, ho⟩ : ∃ o, l[i]? = some o := ⟨l[i], List.getElem?_eq_getElem hi⟩
    obtain ⟨e, he, hbe, hor⟩ := masks_get ho hb
    have hde := hD i o e ho hd he hbe
    rcases hor with rfl | ⟨hlt, hb2⟩
    · exact hde
    · exact ih e.on hlt j (by omega) hde hb2

def edgesBack : List Oper → Nat → Bool
  | [], _ => true
  | o :: r, i => (o.after.toList.all fun e => !Region.binds .any e || Nat.blt e.on i) && edgesBack r (i + 1)
theorem edgesBack_spec : ∀ (l : List Oper) (i : Nat), edgesBack l i = true → ∀ (j : Nat) o, l[j]? = some o → ∀ e ∈ o.after.toList, Region.binds .any e = true → e.on < i + j := by
  intro l
  induction l with
  | nil => intro i _ j o h; simp at h
  | cons o r ih =>
    intro i h j o' ho e he hb
    simp only [edgesBack, Bool.and_eq_true, List.all_eq_true] at h
    cases j with
    | zero =>
      simp at ho; subst ho
      have := h.1 e he
      simp only [hb, Bool.not_true, Bool.false_or] at this
      have := Nat.le_of_ble_eq_true this
      omega
    | succ j =>
      simp at ho
      have := ih (i + 1) h.2 j o' ho e he hb
      omega

theorem masks_lt {l : List Oper} (hb : edgesBack l 0 = true) : ∀ (i j : Nat), i < l.length → (mk (masks l) i).testBit j = true → j < i := by
  intro i
  induction i using Nat.strongRecOn with
  | _ i ih =>
    intro j hi hj
    obtain ⟨o, ho⟩ : ∃ o, l[i]? = some o := ⟨l[i], List.getElem?_eq_getElem hi⟩
    obtain ⟨e, he, hbe, hor⟩ := masks_get ho hj
    have hlt := edgesBack_spec l 0 hb i o ho e he hbe
    rcases hor with rfl | ⟨hlt2, hb2⟩
    · omega
    · have := ih e.on hlt2 j (by omega) hb2; omega

/-! ### Which operation writes a slot -/
def wrOf : List Oper → Nat → Tmp → Option Nat
  | [], _, _ => none
  | o :: r, i, x => match o.dst with
    | some d => bif Nat.beq d x then some i else wrOf r (i + 1) x
    | none => wrOf r (i + 1) x
theorem wrOf_spec : ∀ (l : List Oper) (i : Nat) (x : Tmp) (j : Nat), wrOf l i x = some j → i ≤ j ∧ ∃ o, l[j - i]? = some o ∧ o.dst = some x := by
  intro l
  induction l with
  | nil => intro i x j h; simp [wrOf] at h
  | cons o r ih =>
    intro i x j h
    simp only [wrOf] at h
    have next : wrOf r (i + 1) x = some j → i ≤ j ∧ ∃ o', (o :: r)[j - i]? = some o' ∧ o'.dst = some x := by
      intro h
      obtain ⟨h1, o', h2, h3⟩ := ih (i + 1) x j h
      refine ⟨by omega, o', ?_, h3⟩
      obtain ⟨k, hk⟩ : ∃ k, j - i = k + 1 := ⟨j - i - 1, by omega⟩
      rw [hk, List.getElem?_cons_succ, ← h2]; congr 1; omega
    split at h
    · rename_i d hd
      cases hb : Nat.beq d x with
      | true =>
        simp [hb] at h; subst h
        have := Nat.eq_of_beq_eq_true hb
        subst this
        exact ⟨Nat.le_refl _, o, by simp, hd⟩
      | false => simp only [hb, cond_false] at h; exact next h
    · exact next h

def dstsOnce (l : List Oper) : List Oper → Nat → Bool
  | [], _ => true
  | o :: r, i => (match o.dst with | some d => (match wrOf l 0 d with | some j => Nat.beq i j | none => false) | none => true) && dstsOnce l r (i + 1)
theorem dstsOnce_spec (l : List Oper) : ∀ (r : List Oper) (i : Nat), dstsOnce l r i = true → ∀ (j : Nat) o d, r[j]? = some o → o.dst = some d → wrOf l 0 d = some (i + j) := by
  intro r
  induction r with
  | nil => intro i _ j o d h; simp at h
  | cons o r ih =>
    intro i h j o' d ho hd
    simp only [dstsOnce, Bool.and_eq_true] at h
    cases j with
    | zero =>
      simp at ho; subst ho
      have h1 := h.1
      rw [hd] at h1
      simp only at h1
      split at h1
      · rename_i j hj; rw [hj]; have := Nat.eq_of_beq_eq_true h1; simp [this]
      · simp at h1
    | succ j =>
      simp at ho
      have := ih (i + 1) h.2 j o' d ho hd
      rw [this]; congr 1; omega

/-! ### The first pass -/
/-- An operand of operation i, by what is known of those that surely lie before or behind. -/
def dV (l : List Oper) (ms : List Nat) (tm : Tr Value) (vs : List Value) (i : Nat) : Operand → Option Value
  | .tmp x =>
    match wrOf l 0 x with
    | none => (match tm.find x with | some v => some v | none => some undef)
    | some j =>
      bif Nat.testBit (mk ms i) j then vs[j]?
      else bif Nat.testBit (mk ms j) i || Nat.beq j i then (match tm.find x with | some v => some v | none => some undef) else none
  | .const v => bif flat 12 v then some v else none
  | .func f => some (.func (.func f) #[] #[])
  | .global _ => none

def dWant (l : List Oper) (ρ : Operand → Option Value) (o : Oper) : Option Bool :=
  match o.guard with
  | none => some true
  | some (j, want) =>
    match l[j]? with
    | some oj => (match oj.dst with | some d => (match ρ (.tmp d) with | some (.bool b) => some (b == want) | some .nilIface => some false | some (.tuple ⟨[]⟩) => some false | _ => none) | none => some false)
    | none => some false

abbrev New := List (Nat × List Value)

/-- The rows of the new ones that p lets by, laid beside. -/
def addRows (t : Tr Row) (base : Nat) (p : Nat → Bool) : New → Tr Row
  | [] => t
  | (i, cs) :: r => bif p i then addRows (t.put (base + i) (some ⟨cs, false, .cells⟩)) base p r else addRows t base p r

def absorbed (ms : List Nat) : List Nat → Nat
  | [] => 0
  | e :: r => Nat.lor (mk ms e) (absorbed ms r)

def seen (ms : List Nat) (es : List Nat) (i : Nat) (j : Nat) : Bool := Nat.testBit (mk ms i) j && !Nat.testBit (absorbed ms es) j

structure Pass where
  vs : List Value
  hs : List Hp
  es : List Nat
  nw : New

def passE (call : CallF) : Option (Res × Hp) → Option (Value × Hp)
  | some (.val v, h) => some (v, h)
  | some (.skip, h) => some (undef, h)
  | some (.enter f args, h) => (match nfHp h (call f args) with | some (.ret v, h') => some (v, h') | _ => none)
  | _ => none

def pass (P : Program) (call : CallF) (l : List Oper) (ms : List Nat) (tm : Tr Value) (base : Nat) : List Oper → Nat → Pass → Option Pass
  | [], _, s => some s
  | o :: rest, i, s =>
    let ρ := dV l ms tm s.vs i
    match dWant l ρ o with
    | none => none
    | some false => pass P call l ms tm base rest (i + 1) ⟨s.vs ++ [undef], s.hs, s.es, s.nw⟩
    | some true =>
      match s.hs.getLast? with
      | none => none
      | some h =>
        let q : Option Pass :=
          match evQ P ρ (addRows h.rows base (seen ms s.es i) s.nw) o with
          | some v => nfK v fun v => pass P call l ms tm base rest (i + 1) ⟨s.vs ++ [v], s.hs, s.es, s.nw⟩
          | none => none
        let e : Option Pass :=
          bif s.es.all fun j => Nat.testBit (mk ms i) j then
            match passE call (evE P ρ ⟨addRows h.rows base (seen ms s.es i) s.nw, h.next⟩ o) with
            | some (v, h') => nfHp h' fun h' => nfK v fun v => pass P call l ms tm base rest (i + 1) ⟨s.vs ++ [v], s.hs ++ [h'], s.es ++ [i], s.nw⟩
            | none => none
          else none
        match kind o with
        | .quiet => q
        | .conv => (match evQ P ρ (addRows h.rows base (seen ms s.es i) s.nw) o with | some _ => q | none => e)
        | .new =>
          match evA P ρ o with
          | some (cs, ak) => pass P call l ms tm base rest (i + 1) ⟨s.vs ++ [ak.mk (base + i)], s.hs, s.es, s.nw ++ [(i, cs)]⟩
          | none => none
        | .act => e
end Go.Ev
