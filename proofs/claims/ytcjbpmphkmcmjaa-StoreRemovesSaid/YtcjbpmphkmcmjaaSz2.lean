/- An evaluator of the model's code, sound for every world, second edition: part 2. -/
import Derived.Test.YtcjbpmphkmcmjaaSz1
import Derived.Laws.Build
namespace Go.Ev
noncomputable section
open Go.RowKit
theorem VRs.ovr {μ : Mu} {L L' vs vs' : List Value} (h : VRs μ L L') (hv : VRs μ vs vs') (p : Nat) : VRs μ (ovr L p vs) (ovr L' p vs') := by
  unfold Ev.ovr
  rw [hv.1]
  exact (h.take p).append (hv.append (h.drop _))
def zeroOf (P : Program) (t : TypeId) : Option Value :=
  match P.info? t with
  | some i => (match i.zero with | some z => bif flat 12 z then some z else none | none => none)
  | none => none
def aFill (place : Nat → Option (Nat × Nat)) : List Value → List (Nat × Value) → Option (List Value)
  | cells, [] => some cells
  | cells, (i, v) :: rest =>
    match place i with
    | none => none
    | some (off, size) =>
      bif Nat.beq v.cells.toList.length size && Nat.ble (off + size) cells.length then aFill place (ovr cells off v.cells.toList) rest else none
def placesOf (P : Program) : List Field → Option (List (Nat × Nat))
  | [] => some []
  | f :: r => match szOf P f.type, placesOf P r with
    | some n, some l => some ((f.offset, n) :: l)
    | _, _ => none
def aParts (ρ : Operand → Option Value) : List (Nat × Operand) → Option (List (Nat × Value))
  | [] => some []
  | (i, x) :: r => match ρ x, aParts ρ r with
    | some v, some l => some ((i, v) :: l)
    | _, _ => none
def aBuild (P : Program) (ρ : Operand → Option Value) (t : TypeId) (parts : Array (Nat × Operand)) : Option Value :=
  match zeroOf P t, aParts ρ parts.toList with
  | some z, some ps =>
    match P.underlying t with
    | some (.struct fields) =>
      match placesOf P fields.toList with
      | some pl => (aFill (pl[·]?) z.cells.toList ps).map fun l => .agg l.toArray
      | none => none
    | some (.array _ elem) =>
      match szOf P elem with
      | some m => (aFill (fun i => some (i * m, m)) z.cells.toList ps).map fun l => .agg l.toArray
      | none => none
    | _ => none
  | _, _ => none
def aArgs (ρ : Operand → Option Value) : List Operand → Option (List Value)
  | [] => some []
  | x :: r => match ρ x, aArgs ρ r with
    | some v, some l => some (v :: l)
    | _, _ => none
section
variable {P : Program} {μ : Mu} {w : World} {ρ : Operand → Option Value} {ρ' : Operand → Value}
theorem zeroOf_spec {t : TypeId} {z : Value} (h : zeroOf P t = some z) : (zeroValue t).run P w = .ok z w ∧ VR μ z z := by
  unfold zeroOf at h
  split at h
  · rename_i i hi
    split at h
    · rename_i z' hz
      cases hf : flat 12 z' with
      | false => simp [hf] at h
      | true => simp [hf] at h; subst h; exact ⟨by simp [zeroValue, typeInfo, program, Sem.run, hi, hz], flat_refl _ _ hf⟩
    · simp at h
  · simp at h
theorem fold_set (off : Nat) : ∀ (vs : List Value) (i : Nat) (cells : Array Value), off + i + vs.length ≤ cells.size →
    (vs.zipIdx i).foldl (fun cs (x : Value × Nat) => cs.setIfInBounds (off + x.2) x.1) cells = (ovr cells.toList (off + i) vs).toArray := by
  intro vs
  induction vs with
  | nil => intro i cells _; simp [ovr_nil]
  | cons v vs ih =>
    intro i cells h
    simp only [List.length_cons] at h
    rw [List.zipIdx_cons, List.foldl_cons, ih (i + 1) _ (by simp; omega)]
    congr 1
    simp only [Array.toList_setIfInBounds]
    rw [show off + (i + 1) = off + i + 1 by omega]
    exact ovr_cons _ _ _ _ (by simp; omega)
theorem aFill_sound {place : Nat → Option (Nat × Nat)} : ∀ (ps ps' : List (Nat × Value)) (cells cells' l : List Value), VRs μ cells cells' → ps.map (·.1) = ps'.map (·.1) → VRs μ (ps.map (·.2)) (ps'.map (·.2)) →
    aFill place cells ps = some l → ∃ l', Instr.fill place cells'.toArray ps' = some l'.toArray ∧ VRs μ l l' := by
  intro ps
  induction ps with
  | nil =>
    intro ps' cells cells' l hc h1 h2 h
    cases ps' with
    | nil => simp [aFill] at h; subst h; exact ⟨cells', by simp [Instr.fill], hc⟩
    | cons a b => simp at h1
  | cons x rest ih =>
    intro ps' cells cells' l hc h1 h2 h
    cases ps' with
    | nil => simp at h1
    | cons y rest' =>
      obtain ⟨i, v⟩ := x
      obtain ⟨i', v'⟩ := y
      simp at h1
      obtain ⟨rfl, h1⟩ := h1
      obtain ⟨_, _, e, hv, hrest⟩ := VRs.uncons h2
      simp at e
      obtain ⟨rfl, rfl⟩ := e
      simp only [aFill] at h
      split at h
      · simp at h
      · rename_i off size hp
        cases hb : (Nat.beq v.cells.toList.length size && Nat.ble (off + size) cells.length) with
        | false => simp only [hb, cond_false] at h; simp at h
        | true =>
          simp only [hb, cond_true] at h
          simp only [Bool.and_eq_true] at hb
          have b1 := Nat.eq_of_beq_eq_true hb.1
          have b2 := Nat.le_of_ble_eq_true hb.2
          have hvc := hv.cells
          have e1 : v'.cells.size = size := by have := hvc.1; simp at this b1; omega
          have e2 : cells'.length = cells.length := hc.1.symm
          obtain ⟨l', hl', hr⟩ := ih rest' _ _ l (hc.ovr hvc off) h1 hrest h
          refine ⟨l', ?_, hr⟩
          simp only [Instr.fill, hp]
          rw [if_neg (by simp; omega)]
          rw [← hl']
          congr 1
          have := fold_set off v'.cells.toList 0 cells'.toArray (by simp; omega)
          simp only [Nat.add_zero] at this
          rw [← this, ← Array.foldl_toList, Array.toList_zipIdx]
theorem placesOf_sound : ∀ (fs : List Field) (pl : List (Nat × Nat)), placesOf P fs = some pl →
    ((fs.mapM fun f => do pure (f.offset, ← sizeOf f.type)) : Sem (List (Nat × Nat))).run P w = .ok pl w := by
  intro fs
  induction fs with
  | nil => intro pl h; simp [placesOf] at h; subst h; simp [Sem.run_pure]
  | cons f r ih =>
    intro pl h
    unfold placesOf at h
    split at h
    · rename_i n l h1 h2
      simp at h; subst h
      simp only [List.mapM_cons, Sem.run_bind, szOf_run h1, Result.andThen_ok, Sem.run_pure, ih l h2]
    · simp at h
theorem aParts_sound (hρ : ∀ x v, ρ x = some v → VR μ v (ρ' x)) : ∀ (ps : List (Nat × Operand)) (l : List (Nat × Value)), aParts ρ ps = some l →
    l.map (·.1) = (ps.map fun (i, x) => (i, ρ' x)).map (·.1) ∧ VRs μ (l.map (·.2)) ((ps.map fun (i, x) => (i, ρ' x)).map (·.2)) := by
  intro ps
  induction ps with
  | nil => intro l h; simp [aParts] at h; subst h; exact ⟨rfl, .nil⟩
  | cons p r ih =>
    intro l h
    obtain ⟨i, x⟩ := p
    unfold aParts at h
    split at h
    · rename_i v l' h1 h2
      simp at h; subst h
      obtain ⟨a, b⟩ := ih l' h2
      exact ⟨by simpa using a, .cons (hρ _ _ h1) b⟩
    · simp at h
theorem aArgs_sound (hρ : ∀ x v, ρ x = some v → VR μ v (ρ' x)) : ∀ (xs : List Operand) (l : List Value), aArgs ρ xs = some l → VRs μ l (xs.map ρ') := by
  intro xs
  induction xs with
  | nil => intro l h; simp [aArgs] at h; subst h; exact .nil
  | cons x r ih =>
    intro l h
    unfold aArgs at h
    split at h
    · rename_i v l' h1 h2
      simp at h; subst h
      exact .cons (hρ _ _ h1) (ih l' h2)
    · simp at h
theorem run_build {t : TypeId} {parts : Array (Nat × Operand)} {v : Value} (hρ : ∀ x v, ρ x = some v → VR μ v (ρ' x)) (h : aBuild P ρ t parts = some v) :
    ∃ v', (Instr.build t (parts.map fun (i, x) => (i, ρ' x))).run P w = .ok v' w ∧ VR μ v v' := by
  unfold aBuild at h
  split at h
  · rename_i z ps hz hps
    obtain ⟨hz1, hz2⟩ := zeroOf_spec (P := P) (μ := μ) (w := w) hz
    obtain ⟨p1, p2⟩ := aParts_sound hρ _ _ hps
    split at h
    · rename_i fields hd
      split at h
      · rename_i pl hpl
        cases hf : aFill (pl[·]?) z.cells.toList ps with
        | none => simp [hf] at h
        | some l =>
          simp [hf] at h; subst h
          obtain ⟨l', g1, g2⟩ := aFill_sound ps _ _ _ l hz2.cells p1 p2 hf
          refine ⟨_, ?_, g2.agg⟩
          have hpm := placesOf_sound (P := P) (w := w) fields.toList pl hpl
          have g1' : Instr.fill (fun x => pl.toArray[x]?) z.cells (parts.map fun (i, x) => (i, ρ' x)).toList = some l'.toArray := by
            rw [← g1]; simp
          simp only [Instr.build, Sem.run_bind, hz1, Result.andThen_ok, run_underlying hd]
          rw [Array.mapM_eq_mapM_toList]
          simp only [Sem.run_map, hpm, Result.andThen_ok]
          rw [g1']
          simp [Sem.run_pure]
      · simp at h
    · rename_i len elem hd
      split at h
      · rename_i m hm
        cases hf : aFill (fun i => some (i * m, m)) z.cells.toList ps with
        | none => simp [hf] at h
        | some l =>
          simp [hf] at h; subst h
          obtain ⟨l', g1, g2⟩ := aFill_sound ps _ _ _ l hz2.cells p1 p2 hf
          refine ⟨_, ?_, g2.agg⟩
          have g1' : Instr.fill (fun i => some (i * m, m)) z.cells (parts.map fun (i, x) => (i, ρ' x)).toList = some l'.toArray := by
            rw [← g1]; simp
          simp only [Instr.build, Sem.run_bind, hz1, Result.andThen_ok, run_underlying hd, szOf_run hm]
          rw [g1']
          simp [Sem.run_pure]
      · simp at h
    · simp at h
  · simp at h
end
inductive AK where
  | ptr
  | sl (len size : Nat)
def AK.mk : AK → Nat → Value
  | .ptr, q => .pointer (some ⟨q, 0, none⟩)
  | .sl len size, q => .slice (some ⟨q, 0, none⟩) len size
def AK.real : AK → Nat → Value
  | .ptr, b => .pointer (some ⟨b, 0, none⟩)
  | .sl len _, b => .slice (some ⟨b, 0, none⟩) len len
def evA (P : Program) (ρ : Operand → Option Value) (o : Oper) : Option (List Value × AK) :=
  match o.op with
  | .alloc elem => (zeroOf P elem).map fun z => (z.cells.toList, .ptr)
  | .box _ x => (ρ x).map fun v => (v.cells.toList, .ptr)
  | .buildSlice t len parts =>
    match P.underlying t with
    | some (.slice elem) =>
      match szOf P elem, zeroOf P elem, aParts ρ parts.toList with
      | some m, some z, some ps =>
        bif Nat.ble (len * m) 4096 && Nat.beq z.cells.toList.length m && !Nat.beq m 0 then
          match aFill (fun i => some (i * m, m)) (List.replicate len z.cells.toList).flatten ps with
          | some l => bif Nat.beq l.length (len * m) then some (l, .sl len m) else none
          | none => none
        else none
      | _, _, _ => none
    | _ => none
  | _ => none
theorem rep_cells (z : Array Value) (m : Nat) (hm : z.size = m) (_ : m ≠ 0) : ∀ len : Nat, ((Array.range (len * m)).map (fun i => z[i % z.size]!)).toList = (List.replicate len z.toList).flatten := by
  intro len
  apply List.ext_getElem?
  intro i
  simp only [Array.toList_map, Array.toList_range, List.getElem?_map]
  by_cases hi : i < len * m
  · rw [List.getElem?_range hi]
    have hlen : ∀ k : Nat, (List.replicate k z.toList).flatten.length = k * m := by intro k; simp [hm]
    induction len generalizing i with
    | zero => simp at hi
    | succ len ih =>
      rw [List.replicate_succ, List.flatten_cons]
      by_cases hlt : i < m
      · rw [List.getElem?_append_left (by simp [hm]; exact hlt)]
        simp only [Option.map_some]
        rw [hm, Nat.mod_eq_of_lt hlt, getElem!_pos z i (by omega)]
        simp [Array.getElem?_eq_getElem (show i < z.size by omega)]
      · rw [List.getElem?_append_right (by simp [hm]; omega)]
        have e1 : z.toList.length = m := by simp [hm]
        rw [e1]
        have hi' : i - m < len * m := by rw [Nat.add_mul] at hi; omega
        rw [← ih (i - m) hi']
        simp only [Option.map_some]
        rw [hm]
        congr 2
        rw [Nat.mod_eq_sub_mod (by omega)]
  · rw [List.getElem?_eq_none (by simp; omega)]
    rw [List.getElem?_eq_none (by simp [hm]; omega)]
    rfl
section
variable {P : Program} {μ : Mu} {w : World} {ρ : Operand → Option Value} {ρ' : Operand → Value}
theorem rep_vrs {l l' : List Value} (h : VRs μ l l') : ∀ k : Nat, VRs μ (List.replicate k l).flatten (List.replicate k l').flatten := by
  intro k
  induction k with
  | zero => exact .nil
  | succ k ih => rw [List.replicate_succ, List.flatten_cons, List.replicate_succ, List.flatten_cons]; exact h.append ih
theorem run_row (e : TypeId) (c : Array Value) : (newRow e c).run P w = .ok ⟨w.heap.size, 0, none⟩ (w.alloc (.cells c e)) := rfl
theorem evA_sound {o : Oper} {cs : List Value} {ak : AK} (hρ : ∀ x v, ρ x = some v → VR μ v (ρ' x)) (h : evA P ρ o = some (cs, ak)) :
    ∃ c e, (execOp ρ' o).run P w = .ok (.value (ak.real w.heap.size)) (w.alloc (.cells c e)) ∧ VRs μ cs c.toList ∧ (∀ len m, ak = .sl len m → cs.length = len * m) := by
  unfold evA at h
  split at h
  · rename_i elem ho
    cases hz : zeroOf P elem with
    | none => simp [hz] at h
    | some z =>
      simp [hz] at h
      obtain ⟨rfl, rfl⟩ := h
      obtain ⟨hz1, hz2⟩ := zeroOf_spec (P := P) (μ := μ) (w := w) hz
      refine ⟨z.cells, elem, ?_, hz2.cells, by simp⟩
      simp only [execOp, ho, Instr.alloc, Sem.run_bind, hz1, Result.andThen_ok, Sem.run_pure, newVar, run_row, AK.real]
  · rename_i t x ho
    cases hx : ρ x with
    | none => simp [hx] at h
    | some v =>
      simp [hx] at h
      obtain ⟨rfl, rfl⟩ := h
      refine ⟨(ρ' x).cells, t, ?_, (hρ x v hx).cells, by simp⟩
      simp only [execOp, ho, Instr.box, Sem.run_bind, Result.andThen_ok, Sem.run_pure, newVar, run_row, AK.real]
  · rename_i t len parts ho
    split at h
    · rename_i elem hd
      split at h
      · rename_i m z ps hm hz hps
        cases hb : (Nat.ble (len * m) 4096 && Nat.beq z.cells.toList.length m && !Nat.beq m 0) with
        | false => simp only [hb, cond_false] at h; simp at h
        | true =>
          simp only [hb, cond_true] at h
          simp only [Bool.and_eq_true, Bool.not_eq_true'] at hb
          have b1 := Nat.le_of_ble_eq_true hb.1.1
          have b2 := Nat.eq_of_beq_eq_true hb.1.2
          have b3 : m ≠ 0 := by intro e; subst e; simp at hb
          cases hf : aFill (fun i => some (i * m, m)) (List.replicate len z.cells.toList).flatten ps with
          | none => simp [hf] at h
          | some l =>
            simp only [hf] at h
            cases hl : Nat.beq l.length (len * m) with
            | false => simp [hl] at h
            | true =>
              simp [hl] at h
              obtain ⟨rfl, rfl⟩ := h
              obtain ⟨hz1, hz2⟩ := zeroOf_spec (P := P) (μ := μ) (w := w) hz
              obtain ⟨p1, p2⟩ := aParts_sound hρ _ _ hps
              have hzz : VRs μ (List.replicate len z.cells.toList).flatten ((Array.range (len * m)).map (fun i => z.cells[i % z.cells.size]!)).toList := by
                rw [rep_cells z.cells m (by simpa using b2) b3 len]
                exact rep_vrs hz2.cells len
              obtain ⟨l', g1, g2⟩ := aFill_sound ps _ _ _ l hzz p1 p2 hf
              refine ⟨l'.toArray, elem, ?_, by simpa using g2, fun a b e => by simp at e; obtain ⟨rfl, rfl⟩ := e; exact Nat.eq_of_beq_eq_true hl⟩
              have hne : ¬ (len * m = 0 ∧ False) := by simp
              have g1' : Instr.fill (fun i => some (i * m, m)) ((Array.range (len * m)).map (fun i => z.cells[i % z.cells.size]!)) (parts.map fun (i, x) => (i, ρ' x)).toList = some l'.toArray := by
                rw [← g1, Array.toArray_toList, Array.toList_map]
              simp only [execOp, ho, Instr.buildSlice, Sem.run_bind, run_underlying hd, Result.andThen_ok, szOf_run hm]
              rw [if_neg (by have : (2:Nat) ^ 24 = 16777216 := by decide
                             omega)]
              by_cases h0 : len * m = 0
              · rw [if_pos h0]
                simp only [Sem.run_pure, Result.andThen_ok, Sem.run_bind]
                have e0 : (Array.range (len * m)).map (fun i => (#[] : Array Value)[i % (#[] : Array Value).size]!) = (Array.range (len * m)).map (fun i => z.cells[i % z.cells.size]!) := by
                  rw [h0]; simp
                rw [e0, g1']
                simp [run_row, AK.real]
              · rw [if_neg h0]
                simp only [Sem.run_bind, hz1, Result.andThen_ok, Sem.run_pure]
                rw [g1']
                simp [run_row, AK.real]
      · simp at h
    · simp at h
  · simp at h
theorem AK.rel {ak : AK} {q : Nat} {b s : Nat} {cs : List Value} (hm : μ q = some (b, 0, s)) (hs : cs.length ≤ s) (hl : ∀ len m, ak = .sl len m → cs.length = len * m) : VR μ (ak.mk q) (ak.real b) := by
  cases ak with
  | ptr => have := VR.ptr (μ := μ) q 0 b 0 s hm; simpa [AK.mk, AK.real] using this
  | sl len m =>
    have := VR.slice (μ := μ) q 0 len m b 0 s len hm (Nat.le_refl _) (by have := hl len m rfl; omega)
    simpa [AK.mk, AK.real] using this
end
end
end Go.Ev
namespace Go.Ev
noncomputable section
open Go.RowKit
section
variable {P : Program} {w : World} {μ : Mu}
theorem run_getObj {b : Nat} {x : Obj} (h : w.heap[b]? = some x) (hx : ∀ c e fr, x ≠ .cells c e fr) : (getObj b).run P w = .ok x w := by
  simp only [getObj, Sem.run, h]
theorem vr_tuple3 {a b c a' b' c' : Value} (h1 : VR μ a a') (h2 : VR μ b b') (h3 : VR μ c c') : VR μ (.tuple #[a, b, c]) (.tuple #[a', b', c']) :=
  (VRs.cons h1 (VRs.cons h2 (VRs.cons h3 VRs.nil))).tuple
theorem vr_tuple2 {a b a' b' : Value} (h1 : VR μ a a') (h2 : VR μ b b') : VR μ (.tuple #[a, b]) (.tuple #[a', b']) :=
  (VRs.cons h1 (VRs.cons h2 VRs.nil)).tuple
end
theorem pureRun_bind {α β : Type} {P : Program} {f : α → Sem β} {r : β} : ∀ (s : Sem α), pureRun P (s >>= f) = some r → ∃ a, pureRun P s = some a ∧ pureRun P (f a) = some r := by
  intro s
  induction s with
  | pure a => intro h; exact ⟨a, rfl, h⟩
  | program k ih => intro h; exact ih P h
  | mark m k ih => intro h; exact ih h
  | _ => intro h; simp [bind, Sem.bind, pureRun] at h
def unflat : List Value → Option (List MapEntry)
  | [] => some []
  | k :: v :: r => (match unflat r with | some es => some (⟨k, v, 0⟩ :: es) | none => none)
  | _ => none
inductive EsR (μ : Mu) : List MapEntry → List MapEntry → Prop where
  | nil : EsR μ [] []
  | cons {e e' : MapEntry} {r r' : List MapEntry} (hk : e.key = e'.key) (hv : VR μ e.val e'.val) (h : EsR μ r r') : EsR μ (e :: r) (e' :: r')
def keysFlat : List MapEntry → Bool
  | [] => true
  | e :: r => flat 12 e.key && keysFlat r
theorem esr_of {μ : Mu} : ∀ (es' : List MapEntry) (cells : List Value) (es : List MapEntry), unflat cells = some es → keysFlat es = true → VRs μ cells (flatMap es') → EsR μ es es' := by
  intro es'
  induction es' with
  | nil =>
    intro cells es h _ hv
    have := hv.1
    simp only [flatMap, List.length_nil] at this
    have := List.eq_nil_of_length_eq_zero this
    subst this
    simp [unflat] at h; subst h; exact .nil
  | cons e' r' ih =>
    intro cells es h hk hv
    cases cells with
    | nil => have := hv.1; simp [flatMap] at this
    | cons k l =>
      cases l with
      | nil => have := hv.1; simp [flatMap] at this
      | cons v r =>
        simp only [unflat] at h
        split at h
        · rename_i es0 he
          simp at h; subst h
          simp only [keysFlat, Bool.and_eq_true] at hk
          obtain ⟨b1, m1, e1, h1, h2⟩ := VRs.uncons hv
          simp only [flatMap, List.cons.injEq] at e1
          obtain ⟨rfl, rfl⟩ := e1
          obtain ⟨b2, m2, e2, h3, h4⟩ := VRs.uncons h2
          simp only [List.cons.injEq] at e2
          obtain ⟨rfl, rfl⟩ := e2
          exact .cons (flat_eq _ _ _ hk.1 h1).symm h3 (ih _ _ he hk.2 h4)
        · simp at h
section
variable {P : Program} {B : Base} {n : Nat} {μ : Mu} {F : Nat → Option Row} {w : World}
def FR (μ : Mu) : Option (Nat × Value) → Option (Nat × Value) → Prop
  | none, none => True
  | some (i, v), some (j, v') => i = j ∧ VR μ v v'
  | _, _ => False
theorem findNow_rel {kd : TypeDesc} {k : Value} : ∀ {es es' : List MapEntry}, EsR μ es es' → ∀ i,
    (Instr.findNow kd k es i = none ∧ Instr.findNow kd k es' i = none) ∨ ∃ r r', Instr.findNow kd k es i = some r ∧ Instr.findNow kd k es' i = some r' ∧ FR μ r r' := by
  intro es es' h
  induction h with
  | nil => intro i; exact .inr ⟨none, none, rfl, rfl, trivial⟩
  | cons hk hv _ ih =>
    intro i
    simp only [Instr.findNow, ← hk]
    split
    · exact .inr ⟨_, _, rfl, rfl, rfl, hv⟩
    · exact ih (i + 1)
    · exact .inl ⟨rfl, rfl⟩
theorem findAsking_rel {kt : TypeId} {k : Value} : ∀ {es es' : List MapEntry}, EsR μ es es' → ∀ i r, pureRun P (Instr.findAsking kt k es i) = some r →
    ∃ r', (Instr.findAsking kt k es' i).run P w = .ok r' w ∧ FR μ r r' := by
  intro es es' h
  induction h with
  | nil => intro i r hr; simp [Instr.findAsking, pureRun, pure] at hr; subst hr; exact ⟨none, rfl, trivial⟩
  | cons hk hv _ ih =>
    intro i r hr
    simp only [Instr.findAsking] at hr ⊢
    obtain ⟨b, h1, h2⟩ := pureRun_bind _ hr
    have h3 := pureRun_sound _ h1 w
    rw [Sem.run_bind, ← hk, h3, Result.andThen_ok]
    cases b with
    | true =>
      simp [pureRun, pure] at h2; subst h2
      exact ⟨_, rfl, rfl, hv⟩
    | false => simp only [Bool.false_eq_true, if_false] at h2 ⊢; exact ih _ _ h2
theorem findKey_rel {kt : TypeId} {k : Value} {es es' : List MapEntry} (h : EsR μ es es') {r : Option (Nat × Value)} (hr : pureRun P (Instr.findKey kt k es) = some r) :
    ∃ r', (Instr.findKey kt k es').run P w = .ok r' w ∧ FR μ r r' := by
  unfold Instr.findKey at hr ⊢
  obtain ⟨d, h1, h2⟩ := pureRun_bind _ hr
  rw [Sem.run_bind, pureRun_sound _ h1 w, Result.andThen_ok]
  rcases findNow_rel (kd := d) (k := k) h 0 with ⟨e1, e2⟩ | ⟨a, a', e1, e2, e3⟩
  · rw [e1] at h2; rw [e2]
    exact findAsking_rel h 0 r h2
  · rw [e1] at h2; rw [e2]
    simp [pureRun, pure] at h2; subst h2
    exact ⟨a', rfl, e3⟩
theorem EsR.length {es es' : List MapEntry} (h : EsR μ es es') : es.length = es'.length := by
  induction h with
  | nil => rfl
  | cons _ _ _ ih => simp [ih]
theorem EsR.key {es es' : List MapEntry} (h : EsR μ es es') : ∀ {j : Nat} {e : MapEntry}, es[j]? = some e → ∃ e', es'[j]? = some e' ∧ e'.key = e.key := by
  induction h with
  | nil => intro j e h; simp at h
  | cons hk _ _ ih =>
    intro j e h
    cases j with
    | zero => simp at h; subst h; exact ⟨_, rfl, hk.symm⟩
    | succ j => simp at h ⊢; exact ih h
def ents (rows : Tr Row) : Value → Option (List MapEntry)
  | .map none => some []
  | .map (some r) => (match rows.find r with | some ⟨cells, _, .map _⟩ => unflat cells | _ => none)
  | _ => none
def elSz0 (P : Program) (t : TypeId) : Nat := match P.underlying t with | some (.slice el) => (match szOf P el with | some m => m | none => 0) | _ => 0
def symM (rows : Tr Row) : Value → Bool
  | .map (some r) => (match rows.find r with | some ⟨_, _, .map true⟩ => true | _ => false)
  | _ => false
def nilG (P : Program) (et : TypeId) (sy : Bool) (z : Value) : Value :=
  match sy, z with
  | true, .slice none 0 0 => .slice (some ⟨0, 0, some 0⟩) 0 (elSz0 P et)
  | _, _ => z
theorem nilG_rel {et : TypeId} {sy : Bool} {z z' : Value} (h : VR μ z z') : VR μ (nilG P et sy z) z' := by
  unfold nilG
  split
  · cases h; exact .gsl0 _ _ _ _
  · exact h
def aLookup (P : Program) (rows : Tr Row) (t : TypeId) (m k : Value) (ok : Bool) : Option Value :=
  match P.underlying t, ents rows m with
  | some (.map kt et), some es =>
    bif flat 12 k && keysFlat es then
      match pureRun P (Instr.checkKey es.isEmpty 10000 kt k), pureRun P (Instr.findKey kt k es), zeroOf P et with
      | some _, some (some (_, v)), _ => some (bif ok then .tuple #[v, .bool true] else v)
      | some _, some none, some z => some (bif ok then .tuple #[z, .bool false] else nilG P et (symM rows m) z)
      | _, _, _ => none
    else none
  | _, _ => none
theorem getMap {rows : Tr Row} (hw : WR B μ rows.find n w) {r : Nat} {es : List MapEntry} {m' : Value} (hm : VR μ (.map (some r)) m') (he : ents rows (.map (some r)) = some es) (hk : keysFlat es = true) :
    ∃ b es' t cells sy, m' = .map (some b) ∧ μ r = some (b, 0, 1) ∧ w.heap[b]? = some (.map es' t) ∧ rows.find r = some ⟨cells, false, .map sy⟩ ∧ unflat cells = some es ∧ VRs μ cells (flatMap es'.toList) ∧ EsR μ es es'.toList ∧ B.own b := by
  simp only [ents] at he
  split at he
  · rename_i cells ro sy hr
    obtain ⟨b, es', t, g1, g2, g3, g4, g5⟩ := hw.rows r _ hr rfl
    simp only at g4
    subst g4
    cases hm with
    | mapp _ b' hmu =>
      rw [g1] at hmu
      simp only [Option.some.injEq, Prod.mk.injEq] at hmu
      obtain ⟨rfl, _, _⟩ := hmu
      exact ⟨b, es', t, cells, sy, rfl, g1, g2, hr, he, g3, esr_of _ _ _ he hk g3, g5⟩
  · simp at he
theorem isEmpty_rel {es : List MapEntry} {es' : Array MapEntry} (h : EsR μ es es'.toList) : es'.isEmpty = es.isEmpty := by
  have := h.length
  cases es with
  | nil =>
    have h2 : es'.size = 0 := by simpa using this.symm
    rw [Array.eq_empty_of_size_eq_zero h2]; rfl
  | cons a b =>
    have h2 : es'.size ≠ 0 := by
      intro h0
      have h3 : es'.toList.length = 0 := by simpa using h0
      rw [h3] at this; simp at this
    cases he : es'.isEmpty with
    | false => rfl
    | true => exact absurd (by simpa using he) (fun e : es' = #[] => h2 (by rw [e]; rfl))
theorem ents_there {rows : Tr Row} (hw : WR B μ rows.find n w) {m m' : Value} {es : List MapEntry} (hm : VR μ m m') (he : ents rows m = some es) (hk : keysFlat es = true) :
    ∃ es' : Array MapEntry, EsR μ es es'.toList ∧ ((m' = .map none ∧ es' = #[]) ∨ ∃ b t, m' = .map (some b) ∧ (getObj b).run P w = .ok (.map es' t) w) := by
  have hm2 := hm
  cases hm with
  | mnil => simp [ents] at he; subst he; exact ⟨#[], .nil, .inl ⟨rfl, rfl⟩⟩
  | mapp r b hmu =>
    obtain ⟨b', es', t', cells, _, e1, g1, g2, _, _, _, g3, _⟩ := getMap hw hm2 he hk
    cases e1
    exact ⟨es', g3, .inr ⟨_, t', rfl, run_getObj (P := P) g2 (by intro _ _ _ h; cases h)⟩⟩
  | _ => simp [ents] at he
theorem aLookup_sound {rows : Tr Row} (hw : WR B μ rows.find n w) {t : TypeId} {m m' k k' v : Value} {ok : Bool} (hm : VR μ m m') (hk : VR μ k k') (h : aLookup P rows t m k ok = some v) :
    ∃ v', (Instr.lookup t m' k' ok).run P w = .ok v' w ∧ VR μ v v' := by
  unfold aLookup at h
  split at h
  · rename_i kt et es hd he
    cases hc : (flat 12 k && keysFlat es) with
    | false => simp [hc] at h
    | true =>
      simp only [hc, cond_true] at h
      simp only [Bool.and_eq_true] at hc
      have ek := flat_eq _ _ _ hc.1 hk
      subst ek
      obtain ⟨es', hrel, hcase⟩ := ents_there (P := P) hw hm he hc.2
      split at h
      · rename_i u i v0 z h1 h2
        simp at h; subst h
        have hck := pureRun_sound _ h1 w
        obtain ⟨r', hf, hfr⟩ := findKey_rel (P := P) (w := w) hrel h2
        cases r' with
        | none => exact hfr.elim
        | some p =>
          obtain ⟨i', v'⟩ := p
          obtain ⟨_, hv⟩ := hfr
          refine ⟨if ok then .tuple #[v', .bool true] else v', ?_, ?_⟩
          · rcases hcase with ⟨rfl, rfl⟩ | ⟨b, t', rfl, hg⟩
            · rw [← isEmpty_rel hrel] at hck
              simp only [Instr.lookup, Sem.run_bind, run_underlying hd, Result.andThen_ok, Sem.run_pure, hck, hf]
            · rw [← isEmpty_rel hrel] at hck
              simp only [Instr.lookup, Sem.run_bind, run_underlying hd, Result.andThen_ok, Sem.run_pure, hg, hck, hf]
          · cases ok
            · exact hv
            · exact vr_tuple2 hv (.bool _)
      · rename_i u z h1 h2 h3
        simp at h; subst h
        have hck := pureRun_sound _ h1 w
        obtain ⟨r', hf, hfr⟩ := findKey_rel (P := P) (w := w) hrel h2
        cases r' with
        | some p => exact hfr.elim
        | none =>
          obtain ⟨z1, z2⟩ := zeroOf_spec (P := P) (μ := μ) (w := w) h3
          refine ⟨if ok then .tuple #[z, .bool false] else z, ?_, ?_⟩
          · rcases hcase with ⟨rfl, rfl⟩ | ⟨b, t', rfl, hg⟩
            · rw [← isEmpty_rel hrel] at hck
              simp only [Instr.lookup, Sem.run_bind, run_underlying hd, Result.andThen_ok, Sem.run_pure, hck, hf, z1]
            · rw [← isEmpty_rel hrel] at hck
              simp only [Instr.lookup, Sem.run_bind, run_underlying hd, Result.andThen_ok, Sem.run_pure, hg, hck, hf, z1]
          · cases ok
            · exact nilG_rel z2
            · exact vr_tuple2 z2 (.bool _)
      · simp at h
  · simp at h
end
end
end Go.Ev
namespace Go.Ev
noncomputable section
open Go.RowKit
def flatAll (ρ : Operand → Option Value) : List Operand → Bool
  | [] => true
  | x :: r => (match ρ x with | some v => flat 12 v | none => false) && flatAll ρ r
def evPure (P : Program) (ρ : Operand → Option Value) (o : Oper) : Option Value :=
  match o.op with
  | .select _ _ => none
  | _ =>
    bif flatAll ρ o.op.operands.toList then
      match pureRun P (execOp (fun x => (ρ x).getD undef) o) with
      | some (.value v) => bif flat 12 v then some v else none
      | _ => none
    else none
def evLen (P : Program) (ρ : Operand → Option Value) (c : Call) : Option Value :=
  match c.args.toList, c.argTypes.toList with
  | [x], [t] =>
    match ρ x, P.underlying t with
    | some (.slice _ n _), some (.slice _) => some (.int .i64 (.ofNat n))
    | some (.string s), some .string => some (.int .i64 (.ofNat s.data.toList.length))
    | some _, some (.array n _) => some (.int .i64 (.ofNat n))
    | _, _ => none
  | _, _ => none
def evLenM (P : Program) (ρ : Operand → Option Value) (rows : Tr Row) (c : Call) : Option Value :=
  match c.args.toList, c.argTypes.toList with
  | [x], [t] =>
    match ρ x, P.underlying t with
    | some m, some (.map _ _) => (match ents rows m with | some es => bif keysFlat es then some (.int .i64 (.ofNat es.length)) else none | none => none)
    | _, _ => none
  | _, _ => none
def fres (op : BinOp) (k : FloatKind) (a b : Nat) : Option (Option Nat) :=
  match op with
  | .add => some (k.format.add a b)
  | .sub => some (k.format.sub a b)
  | .mul => some (k.format.mul a b)
  | .quo => some (k.format.div a b)
  | _ => none
def fcmp (op : BinOp) (k : FloatKind) (a b : Nat) : Option Bool :=
  match op with
  | .eql => some (k.format.order a b == some .eq)
  | .neq => some (k.format.order a b != some .eq)
  | .lss => some (k.format.order a b == some .lt)
  | .leq => some (k.format.order a b == some .lt || k.format.order a b == some .eq)
  | .gtr => some (k.format.order a b == some .gt)
  | .geq => some (k.format.order a b == some .gt || k.format.order a b == some .eq)
  | _ => none
theorem isNan_read {k : FloatKind} {b : Nat} (h : isNan k b = true) : ∃ s f, k.format.read b = .nan s f := by
  unfold isNan at h; split at h
  · rename_i s f e; exact ⟨s, f, e⟩
  · simp at h
theorem float_inv {μ : Mu} {k : FloatKind} {a : Nat} {x : Value} (h : VR μ (.float k a) x) : ∃ a', x = .float k a' ∧ (a' = a ∨ (isNan k a = true ∧ isNan k a' = true)) := by
  cases h with
  | float => exact ⟨a, rfl, .inl rfl⟩
  | nan _ _ a' h1 h2 => exact ⟨a', rfl, .inr ⟨h1, h2⟩⟩
theorem order_nan {k : FloatKind} {a b : Nat} (h : isNan k a = true ∨ isNan k b = true) : k.format.order a b = none := by
  unfold Ieee.Format.order
  rcases h with h | h
  · obtain ⟨s, f, e⟩ := isNan_read h
    rw [e]; rfl
  · obtain ⟨s, f, e⟩ := isNan_read h
    rw [e]; cases k.format.read a <;> rfl
theorem fres_nan {op : BinOp} {k : FloatKind} {a b : Nat} {r : Option Nat} (hr : fres op k a b = some r) (h : isNan k a = true ∨ isNan k b = true) : r = none := by
  have opp : ∀ d : Ieee.Datum, (∃ s f, d = .nan s f) → ∃ s f, d.opposite = .nan s f := by rintro _ ⟨s, f, rfl⟩; exact ⟨_, _, rfl⟩
  unfold fres at hr
  rcases h with h | h <;> obtain ⟨s, f, e⟩ := isNan_read h <;> cases op <;> simp at hr <;> subst hr
  · unfold Ieee.Format.add; rw [e]; rfl
  · unfold Ieee.Format.sub; rw [e]; rfl
  · unfold Ieee.Format.mul; rw [e]; rfl
  · unfold Ieee.Format.div; rw [e]; rfl
  · unfold Ieee.Format.add; rw [e]; cases k.format.read a <;> rfl
  · unfold Ieee.Format.sub; rw [e]; cases k.format.read a <;> rfl
  · unfold Ieee.Format.mul; rw [e]; cases k.format.read a <;> rfl
  · unfold Ieee.Format.div; rw [e]; cases k.format.read a <;> rfl
theorem fres_rel {op : BinOp} {k : FloatKind} {a b a' b' : Nat} {r : Option Nat} (hr : fres op k a b = some r) (ha : a' = a ∨ (isNan k a = true ∧ isNan k a' = true)) (hb : b' = b ∨ (isNan k b = true ∧ isNan k b' = true)) :
    fres op k a' b' = some r := by
  have any : ∀ x y, ∃ z, fres op k x y = some z := by
    intro x y; unfold fres at hr ⊢; cases op <;> simp at hr ⊢
  by_cases h : a' = a ∧ b' = b
  · obtain ⟨rfl, rfl⟩ := h; exact hr
  · have h1 : isNan k a = true ∨ isNan k b = true := by
      rcases ha with rfl | ha
      · rcases hb with rfl | hb
        · exact absurd ⟨rfl, rfl⟩ h
        · exact .inr hb.1
      · exact .inl ha.1
    have h2 : isNan k a' = true ∨ isNan k b' = true := by
      rcases ha with rfl | ha
      · rcases hb with rfl | hb
        · exact absurd ⟨rfl, rfl⟩ h
        · exact .inr hb.2
      · exact .inl ha.2
    rw [fres_nan hr h1]
    obtain ⟨z, hz⟩ := any a' b'
    rw [hz, fres_nan hz h2]
theorem fcmp_rel {op : BinOp} {k : FloatKind} {a b a' b' : Nat} (ha : a' = a ∨ (isNan k a = true ∧ isNan k a' = true)) (hb : b' = b ∨ (isNan k b = true ∧ isNan k b' = true)) :
    fcmp op k a' b' = fcmp op k a b := by
  have : k.format.order a' b' = k.format.order a b := by
    rcases ha with rfl | ha
    · rcases hb with rfl | hb
      · rfl
      · rw [order_nan (.inr hb.1), order_nan (.inr hb.2)]
    · rw [order_nan (.inl ha.1), order_nan (.inl ha.2)]
  unfold fcmp; rw [this]
def evBin (P : Program) (ρ : Operand → Option Value) (o : Oper) (op : BinOp) (t : TypeId) (x y : Operand) : Option Value :=
  match ρ x, ρ y with
  | some (.int k a), some (.int k' b) => bif decide (k = k') then (match ibin op k a b with | some v => some v | none => evPure P ρ o) else evPure P ρ o
  | some (.float k a), some (.float k' b) =>
    bif decide (k = k') then
      match fres op k a b, fcmp op k a b with
      | some (some r), _ => some (.float k r)
      | none, some c => some (.bool c)
      | _, _ => none
    else none
  | some (.pointer a), some (.pointer b) => aNil P op t (.pointer a) (.pointer b)
  | some (.slice a n c), some (.slice b m d) => aNil P op t (.slice a n c) (.slice b m d)
  | some (.func a b c), some .nilFunc => aNil P op t (.func a b c) .nilFunc
  | some .nilFunc, some (.func a b c) => aNil P op t .nilFunc (.func a b c)
  | some .nilFunc, some .nilFunc => aNil P op t .nilFunc .nilFunc
  | _, _ => evPure P ρ o
def evConv (P : Program) (ρ : Operand → Option Value) (rows : Tr Row) (o : Oper) (src dst : TypeId) (x : Operand) : Option Value :=
  match ρ x with
  | some (.int _ n) => (match P.underlying src, P.underlying dst with | some (.int _), some (.int k') => some (.int k' (k'.wrap n)) | _, _ => evPure P ρ o)
  | some (.slice a n c) => aText P rows src dst (.slice a n c)
  | _ => evPure P ρ o
def opt (ρ : Operand → Option Value) : Option Operand → Option (Option Value)
  | none => some none
  | some x => (ρ x).map some
def aSliceA (P : Program) (rows : Tr Row) (t : TypeId) (x : Value) (lo hi : Option Value) : Option Value :=
  match P.underlying t, x with
  | some (.array n elem), .pointer (some ⟨r, k, none⟩) =>
    match rows.find r, bnd 0 lo, bnd n hi, szOf P elem with
    | some ⟨cells, _, .cells _⟩, some l, some h, some m => bif Nat.ble l h && Nat.ble h n && Nat.ble (k + n * m) cells.length && Nat.blt 0 cells.length then some (.slice (some ⟨r, k + l * m, none⟩) (h - l) m) else none
    | _, _, _, _ => none
  | _, _ => none
def evQ (P : Program) (ρ : Operand → Option Value) (rows : Tr Row) (o : Oper) : Option Value :=
  match o.op with
  | .move x | .assign x => ρ x
  | .pick c a b => (match ρ c with | some (.bool true) => ρ a | some (.bool false) => ρ b | _ => none)
  | .load t a => (match ρ a with | some v => aLoad P rows t v | none => none)
  | .nilCheck x => (match ρ x with | some (.pointer (some a)) => some (.pointer (some a)) | some (.func (.func f) c d) => some (.func (.func f) c d) | _ => none)
  | .binOp op t x y _ => evBin P ρ o op t x y
  | .makeInterface t x => (match ρ x with | some v => (bif P.concrete t then some (.iface t v) else none) | none => none)
  | .fieldAddr s x f => (match ρ x with | some v => aField P s f v | none => none)
  | .field t x f => (match ρ x with | some v => aFieldV P t f v | none => none)
  | .indexAddr t x i => (match ρ x, ρ i with | some v, some j => aIndexAddr P t v j | _, _ => none)
  | .index t x i => (match ρ x, ρ i with | some v, some j => aIndexV P t v j | _, _ => none)
  | .slice t x lo hi none =>
    match ρ x, opt ρ lo, opt ρ hi with
    | some (.pointer p), some l, some h => aSliceA P rows t (.pointer p) l h
    | some v, some l, some h => aSlice P t v l h
    | _, _, _ => none
  | .extract x i => (match ρ x with | some v => aExtract i v | none => none)
  | .build t parts => aBuild P ρ t parts
  | .convert src dst x => evConv P ρ rows o src dst x
  | .call ⟨.builtin .len, args, ts⟩ => (match evLen P ρ ⟨.builtin .len, args, ts⟩ with | some v => some v | none => evLenM P ρ rows ⟨.builtin .len, args, ts⟩)
  | .lookup t m k ok => (match ρ m, ρ k with | some mv, some kv => aLookup P rows t mv kv ok | _, _ => none)
  | .makeFunc fn first cap => (match aArgs ρ first.toList, aArgs ρ cap.toList with | some a, some b => some (.func fn a.toArray b.toArray) | _, _ => none)
  | _ => evPure P ρ o
section
variable {P : Program} {B : Base} {n : Nat} {μ : Mu} {rows : Tr Row} {w : World} {ρ : Operand → Option Value} {ρ' : Operand → Value}
theorem flatAll_spec (hρ : ∀ x v, ρ x = some v → VR μ v (ρ' x)) : ∀ (l : List Operand), flatAll ρ l = true → ∀ x ∈ l, (ρ x).getD undef = ρ' x := by
  intro l
  induction l with
  | nil => intro _ x hx; simp at hx
  | cons y r ih =>
    intro h x hx
    simp only [flatAll, Bool.and_eq_true] at h
    rcases List.mem_cons.1 hx with rfl | hx
    · cases hv : ρ x with
      | none => simp [hv] at h
      | some v => simp [hv] at h; simp [flat_eq _ _ _ h.1 (hρ x v hv)]
    · exact ih h.2 x hx
theorem evPure_sound {o : Oper} {v : Value} (hρ : ∀ x v, ρ x = some v → VR μ v (ρ' x)) (h : evPure P ρ o = some v) :
    ∃ v', (execOp ρ' o).run P w = .ok (.value v') w ∧ VR μ v v' := by
  unfold evPure at h
  split at h
  · simp at h
  · rename_i hsel
    cases hf : flatAll ρ o.op.operands.toList with
    | false => simp [hf] at h
    | true =>
      simp only [hf, cond_true] at h
      split at h
      · rename_i v0 hp
        cases hv : flat 12 v0 with
        | false => simp [hv] at h
        | true =>
          simp [hv] at h; subst h
          have hc : execOp (fun x => (ρ x).getD undef) o = execOp ρ' o :=
            execOp_congr o (fun cs b e => hsel cs b e) fun x hx => flatAll_spec hρ _ hf x (by simpa using hx)
          exact ⟨v0, by rw [← hc]; exact pureRun_sound _ hp w, flat_refl _ _ hv⟩
      · simp at h
theorem opt_spec (hρ : ∀ x v, ρ x = some v → VR μ v (ρ' x)) {a : Option Operand} {l : Option Value} (h : opt ρ a = some l) : ∀ {d z : Nat}, bnd d l = some z → a.map ρ' = l := by
  intro d z hb
  cases a with
  | none => simp [opt] at h; subst h; rfl
  | some x =>
    simp [opt] at h
    obtain ⟨v, hv, rfl⟩ := h
    have := hρ x v hv
    unfold bnd at hb
    split at hb
    · rename_i e; simp at e
    · rename_i e
      simp at e; subst e
      generalize hy : ρ' x = y at *
      cases this
      simp [hy]
    · simp at hb
theorem aSlice_opt (hρ : ∀ x v, ρ x = some v → VR μ v (ρ' x)) {t : TypeId} {v r : Value} {lo hi : Option Operand} {l h : Option Value} (h1 : opt ρ lo = some l) (h2 : opt ρ hi = some h) (hs : aSlice P t v l h = some r) :
    lo.map ρ' = l ∧ hi.map ρ' = h := by
  unfold aSlice at hs
  split at hs
  · split at hs
    · rename_i a b; exact ⟨opt_spec hρ h1 a, opt_spec hρ h2 b⟩
    · simp at hs
  · split at hs
    · rename_i a b _; exact ⟨opt_spec hρ h1 a, opt_spec hρ h2 b⟩
    · simp at hs
  · split at hs
    · rename_i a b _; exact ⟨opt_spec hρ h1 a, opt_spec hρ h2 b⟩
    · simp at hs
  · split at hs
    · rename_i a b _; exact ⟨opt_spec hρ h1 a, opt_spec hρ h2 b⟩
    · simp at hs
  · simp at hs
theorem aSliceA_opt (hρ : ∀ x v, ρ x = some v → VR μ v (ρ' x)) {t : TypeId} {v r : Value} {lo hi : Option Operand} {l h : Option Value} (h1 : opt ρ lo = some l) (h2 : opt ρ hi = some h) (hs : aSliceA P rows t v l h = some r) :
    lo.map ρ' = l ∧ hi.map ρ' = h := by
  unfold aSliceA at hs
  split at hs
  · split at hs
    · rename_i b1 b2 _
      exact ⟨opt_spec hρ h1 b1, opt_spec hρ h2 b2⟩
    · simp at hs
  · simp at hs
theorem aSliceA_sound (hw : WR B μ rows.find n w) {t : TypeId} {x x' v : Value} {lo hi : Option Value} (hx : VR μ x x') (h : aSliceA P rows t x lo hi = some v) : ∃ v', (Instr.sliceAt t x' lo hi none).run P w = .ok v' w ∧ VR μ v v' := by
  unfold aSliceA at h
  split at h
  · rename_i len elem r k hd
    split at h
    · rename_i cells ro sy l hh m hr h1 h2 hz
      cases hb : (Nat.ble l hh && Nat.ble hh len && Nat.ble (k + len * m) cells.length && Nat.blt 0 cells.length) with
      | false => simp [hb] at h
      | true =>
        simp only [hb, cond_true, Option.some.injEq] at h; subst h
        simp only [Bool.and_eq_true] at hb
        have a1 := Nat.le_of_ble_eq_true hb.1.1.1
        have a2 := Nat.le_of_ble_eq_true hb.1.1.2
        have a3 := Nat.le_of_ble_eq_true hb.1.2
        have a4 : 0 < cells.length := Nat.le_of_ble_eq_true hb.2
        cases hx with
        | ptr _ _ b o s hm =>
          obtain ⟨b', o', s', c, e, lo', hi', g1, g2, g3, g4, g5, g6⟩ := hw.rows r _ hr (void_cells a4)
          rw [hm] at g1
          simp only [Option.some.injEq, Prod.mk.injEq] at g1
          obtain ⟨rfl, rfl, rfl⟩ := g1
          simp only at g4
          have hbr := bounds_run (P := P) (w := w) (b := false) (cap := len) h1 h2 a1 a2
          by_cases hcl : len = l
          · have : hh = l := by omega
            subst this
            refine ⟨.slice (some ⟨b, o + k, none⟩) (hh - hh) (len - hh), ?_, ?_⟩
            · simp only [Instr.sliceAt, Instr.sureAddr, Sem.run_bind, run_underlying hd, Result.andThen_ok, Sem.run_pure, hbr, szOf_run hz]
              rw [if_pos hcl]
            · have e1 : hh - hh = 0 := by omega
              have e2 : len - hh = 0 := by omega
              rw [e1, e2]
              exact .slice0 _ _ _ _
          · refine ⟨.slice (some ⟨b, o + (k + l * m), none⟩) (hh - l) (len - l), ?_, .slice r (k + l * m) (hh - l) m b o s (len - l) hm (by omega) ?_⟩
            · simp [Instr.sliceAt, Instr.sureAddr, run_underlying hd, hbr, szOf_run hz, hcl, add_none, Nat.add_assoc]
            · have : l * m + (len - l) * m = len * m := by rw [← Nat.add_mul]; congr 1; omega
              omega
    · simp at h
  · simp at h
theorem evLen_sound {o : Oper} {c : Call} (ho : o.op = .call c) (hc : c.callee = .builtin .len) {v : Value} (hρ : ∀ x v, ρ x = some v → VR μ v (ρ' x)) (h : evLen P ρ c = some v) :
    ∃ v', (execOp ρ' o).run P w = .ok (.value v') w ∧ VR μ v v' := by
  unfold evLen at h
  split at h
  · rename_i x t ha ht
    have ea : c.args = #[x] := by apply Array.ext'; simpa using ha
    have et : c.argTypes = #[t] := by apply Array.ext'; simpa using ht
    split at h
    · rename_i a len cp e hx hd
      simp at h; subst h
      refine ⟨.int .i64 (Int.ofNat len), ?_, .int _ _⟩
      have : ∃ a' c', ρ' x = .slice a' len c' := by
        have := hρ x _ hx
        generalize ρ' x = y at *
        cases this <;> exact ⟨_, _, rfl⟩
      obtain ⟨a', c', e'⟩ := this
      simp [execOp, ho, resolve, hc, invoke, builtin, ea, et, e', Builtin.len_, run_underlying hd, goInt]
    · rename_i s hx hd
      simp at h; subst h
      refine ⟨.int .i64 (Int.ofNat s.size), ?_, ?_⟩
      · have : ρ' x = .string s := by
          have := hρ x _ hx
          generalize ρ' x = y at *
          cases this; rfl
        simp [execOp, ho, resolve, hc, invoke, builtin, ea, et, this, Builtin.len_, run_underlying hd, goInt]
      · have e0 : (Int.ofNat s.size) = (s.data.size : Int) := rfl
        rw [e0]; exact .int _ _
    · rename_i v0 k e hx hd
      simp at h; subst h
      refine ⟨.int .i64 (Int.ofNat k), ?_, .int _ _⟩
      simp [execOp, ho, resolve, hc, invoke, builtin, ea, et, Builtin.len_, run_underlying hd, goInt]
    · simp at h
  · simp at h
theorem evLenM_sound (hw : WR B μ rows.find n w) {o : Oper} {c : Call} (ho : o.op = .call c) (hc : c.callee = .builtin .len) {v : Value} (hρ : ∀ x v, ρ x = some v → VR μ v (ρ' x)) (h : evLenM P ρ rows c = some v) :
    ∃ v', (execOp ρ' o).run P w = .ok (.value v') w ∧ VR μ v v' := by
  unfold evLenM at h
  split at h
  · rename_i x t ha ht
    have ea : c.args = #[x] := by apply Array.ext'; simpa using ha
    have et : c.argTypes = #[t] := by apply Array.ext'; simpa using ht
    split at h
    · rename_i m kt vt hx hd
      split at h
      · rename_i es he
        cases hk : keysFlat es with
        | false => simp [hk] at h
        | true =>
          simp only [hk, cond_true, Option.some.injEq] at h; subst h
          obtain ⟨es', h1, h2⟩ := ents_there (P := P) hw (hρ x _ hx) he hk
          have hl : es.length = es'.size := by have := h1.length; simpa using this
          refine ⟨.int .i64 (Int.ofNat es.length), ?_, .int _ _⟩
          rcases h2 with ⟨e1, rfl⟩ | ⟨b, tt, e1, e2⟩
          · have : es.length = 0 := by simpa using hl
            simp [execOp, ho, resolve, hc, invoke, builtin, ea, et, e1, Builtin.len_, run_underlying hd, goInt, this]
          · simp [execOp, ho, resolve, hc, invoke, builtin, ea, et, e1, e2, Builtin.len_, run_underlying hd, goInt, hl]
      · simp at h
    · simp at h
  · simp at h
theorem evBin_sound {o : Oper} {op : BinOp} {t t' : TypeId} {x y : Operand} (ho : o.op = .binOp op t x y t') {v : Value} (hρ : ∀ x v, ρ x = some v → VR μ v (ρ' x)) (h : evBin P ρ o op t x y = some v) :
    ∃ v', (execOp ρ' o).run P w = .ok (.value v') w ∧ VR μ v v' := by
  have nil : ∀ a b, ρ x = some a → ρ y = some b → aNil P op t a b = some v → ∃ v', (execOp ρ' o).run P w = .ok (.value v') w ∧ VR μ v v' := by
    intro a b hx hy hn
    have hr := aNil_sound (w := w) (hρ x a hx) (hρ y b hy) hn x y
    have hfl : VR μ v v := by
      unfold aNil at hn
      split at hn <;> (try (simp at hn; done)) <;> (try (cases op <;> simp at hn <;> subst hn <;> exact .bool _))
      rename_i e r k q j _
      cases hc : (Nat.beq r q && sizedB P e) with
      | false => rw [hc] at hn; simp at hn
      | true => rw [hc] at hn; cases op <;> simp at hn <;> subst hn <;> exact .bool _
    refine ⟨v, ?_, hfl⟩
    simp only [execOp, ho, Sem.run_bind] at hr ⊢
    rw [hr]; simp
  unfold evBin at h
  split at h
  · rename_i k a k' b hx hy
    cases hk : decide (k = k') with
    | false => simp only [hk, cond_false] at h; exact evPure_sound hρ h
    | true =>
      simp only [hk, cond_true] at h
      have e : k = k' := of_decide_eq_true hk
      subst e
      split at h
      · rename_i v0 hi
        simp at h; subst h
        have ex : ρ' x = .int k a := by have := hρ x _ hx; generalize ρ' x = z at *; cases this; rfl
        have ey : ρ' y = .int k b := by have := hρ y _ hy; generalize ρ' y = z at *; cases this; rfl
        have hr := ibin_sound (P := P) (w := w) hi t x y
        have hfl : VR μ v0 v0 := by unfold ibin at hi; cases op <;> simp at hi <;> subst hi <;> constructor
        refine ⟨v0, ?_, hfl⟩
        simp only [execOp, ho, ex, ey, Sem.run_bind] at hr ⊢
        rw [hr]; simp
      · exact evPure_sound hρ h
  · rename_i k a k' b hx hy
    cases hk : decide (k = k') with
    | false => simp only [hk, cond_false] at h; simp at h
    | true =>
      simp only [hk, cond_true] at h
      have e : k = k' := of_decide_eq_true hk
      subst e
      obtain ⟨a', ea, ha⟩ := float_inv (hρ x _ hx)
      obtain ⟨b', eb, hb⟩ := float_inv (hρ y _ hy)
      have hg : ∀ w : World, (eqGuard op t x y (.float k a') (.float k b')).run P w = .ok () w := fun w => by cases op <;> rfl
      split at h
      · rename_i r hr
        simp at h; subst h
        have h2 := fres_rel hr ha hb
        refine ⟨.float k r, ?_, .float _ _⟩
        simp only [execOp, ho, ea, eb, Sem.run_bind, hg, Result.andThen_ok]
        unfold fres at h2
        cases op <;> simp at h2 <;> simp [binOp, Op.floatArith, h2]
      · rename_i c hr1 hr2
        simp at h; subst h
        have h2 := fcmp_rel (op := op) ha hb
        rw [hr2] at h2
        refine ⟨.bool c, ?_, .bool _⟩
        simp only [execOp, ho, ea, eb, Sem.run_bind, hg, Result.andThen_ok]
        unfold fres at hr1; unfold fcmp at h2
        cases op <;> simp at hr1 h2 <;> simp [binOp, Op.floatCmp, h2]
      · simp at h
  · rename_i a b hx hy; exact nil _ _ hx hy h
  · rename_i hx hy; exact nil _ _ hx hy h
  · rename_i hx hy; exact nil _ _ hx hy h
  · rename_i hx hy; exact nil _ _ hx hy h
  · rename_i hx hy; exact nil _ _ hx hy h
  · exact evPure_sound hρ h
theorem evConv_sound (hw : WR B μ rows.find n w) {o : Oper} {src dst : TypeId} {x : Operand} (ho : o.op = .convert src dst x) {v : Value} (hρ : ∀ x v, ρ x = some v → VR μ v (ρ' x)) (h : evConv P ρ rows o src dst x = some v) :
    ∃ v', (execOp ρ' o).run P w = .ok (.value v') w ∧ VR μ v v' := by
  unfold evConv at h
  split at h
  · rename_i k m hx
    have ex : ρ' x = .int k m := by have := hρ x _ hx; generalize ρ' x = z at *; cases this; rfl
    split at h
    · rename_i k0 k' h1 h2
      simp at h; subst h
      refine ⟨_, ?_, .int _ _⟩
      simp [execOp, ho, ex, convert, run_underlying h1, run_underlying h2, Conv.intToInt]
    · exact evPure_sound hρ h
  · rename_i a len c hx
    obtain ⟨v', hr, hv⟩ := aText_sound (P := P) hw (hρ x _ hx) h
    exact ⟨v', by simp only [execOp, ho, Sem.run_bind, hr, Result.andThen_ok, Sem.run_pure], hv⟩
  · exact evPure_sound hρ h
theorem evQ_sound (hw : WR B μ rows.find n w) {o : Oper} {v : Value} (hρ : ∀ x v, ρ x = some v → VR μ v (ρ' x)) (h : evQ P ρ rows o = some v) :
    ∃ v', (execOp ρ' o).run P w = .ok (.value v') w ∧ VR μ v v' := by
  have one : ∀ {s : Sem Value}, (∃ v', s.run P w = .ok v' w ∧ VR μ v v') → execOp ρ' o = (do pure (.value (← s))) → ∃ v', (execOp ρ' o).run P w = .ok (.value v') w ∧ VR μ v v' := by
    intro s ⟨v', hr, hv⟩ e
    exact ⟨v', by rw [e]; simp [hr], hv⟩
  unfold evQ at h
  split at h
  · rename_i x ho; exact ⟨_, by simp only [execOp, ho, Sem.run_pure], hρ _ _ h⟩
  · rename_i x ho; exact ⟨_, by simp only [execOp, ho, Sem.run_pure], hρ _ _ h⟩
  · rename_i c a b ho
    split at h
    · rename_i hc
      have e : ρ' c = .bool true := by have := hρ c _ hc; generalize ρ' c = z at *; cases this; rfl
      exact ⟨_, by simp [execOp, ho, e, asBool], hρ _ _ h⟩
    · rename_i hc
      have e : ρ' c = .bool false := by have := hρ c _ hc; generalize ρ' c = z at *; cases this; rfl
      exact ⟨_, by simp [execOp, ho, e, asBool], hρ _ _ h⟩
    · simp at h
  · rename_i t a ho
    split at h
    · rename_i x hx; exact one (aLoad_sound hw (hρ _ _ hx) h) (by simp only [execOp, ho])
    · simp at h
  · rename_i x ho
    split at h
    · rename_i a hx
      simp at h; subst h
      have := hρ x _ hx
      refine ⟨ρ' x, ?_, this⟩
      generalize he : ρ' x = y at *
      cases this <;> simp [execOp, ho, he]
    · rename_i f c d hx
      simp at h; subst h
      have := hρ x _ hx
      refine ⟨ρ' x, ?_, this⟩
      generalize he : ρ' x = y at *
      cases this
      simp [execOp, ho, he]
    · simp at h
  · rename_i op t x y t' ho; exact evBin_sound ho hρ h
  · rename_i t x ho
    split at h
    · rename_i v0 hx
      cases hc : P.concrete t with
      | false => simp [hc] at h
      | true =>
        simp [hc] at h; subst h
        exact ⟨.iface t (ρ' x), by simp [execOp, ho, run_makeInterface w t (ρ' x) hc], .iface _ _ _ (hρ _ _ hx)⟩
    · simp at h
  · rename_i s x f ho
    split at h
    · rename_i x0 hx; exact one (aField_sound (hρ _ _ hx) h) (by simp only [execOp, ho])
    · simp at h
  · rename_i s x f ho
    split at h
    · rename_i x0 hx; exact one (aFieldV_sound (hρ _ _ hx) h) (by simp only [execOp, ho])
    · simp at h
  · rename_i t x i ho
    split at h
    · rename_i v0 j hx hi
      have ej : ρ' i = j := by
        have := hρ i _ hi
        generalize ρ' i = z at *
        have hj : ∃ k q, j = .int k q := by
          unfold aIndexAddr at h; split at h
          all_goals first | exact ⟨_, _, rfl⟩ | simp at h
        obtain ⟨k, q, rfl⟩ := hj
        cases this; rfl
      exact one (aIndexAddr_sound (hρ _ _ hx) h) (by simp only [execOp, ho, ej])
    · simp at h
  · rename_i t x i ho
    split at h
    · rename_i v0 j hx hi
      have ej : ρ' i = j := by
        have := hρ i _ hi
        generalize ρ' i = z at *
        have hj : ∃ k q, j = .int k q := by
          unfold aIndexV at h; split at h
          all_goals first | exact ⟨_, _, rfl⟩ | simp at h
        obtain ⟨k, q, rfl⟩ := hj
        cases this; rfl
      exact one (aIndexV_sound (hρ _ _ hx) h) (by simp only [execOp, ho, ej])
    · simp at h
  · rename_i t x lo hi ho
    split at h
    · rename_i v0 l hh hx h1 h2
      obtain ⟨e1, e2⟩ := aSliceA_opt hρ h1 h2 h
      exact one (aSliceA_sound hw (hρ _ _ hx) h) (by simp only [execOp, ho, e1, e2, Option.map_none])
    · rename_i a l hh _ hx h1 h2
      obtain ⟨e1, e2⟩ := aSlice_opt hρ h1 h2 h
      exact one (aSlice_sound (hρ _ _ hx) h) (by simp only [execOp, ho, e1, e2, Option.map_none])
    · simp at h
  · rename_i x i ho
    split at h
    · rename_i x0 hx; exact one (aExtract_sound (hρ _ _ hx) h) (by simp only [execOp, ho])
    · simp at h
  · rename_i t parts ho; exact one (run_build hρ h) (by simp only [execOp, ho])
  · rename_i src dst x ho; exact evConv_sound hw ho hρ h
  · rename_i args ts ho
    split at h
    · rename_i v0 hv
      simp only [Option.some.injEq] at h; subst h
      exact evLen_sound ho rfl hρ hv
    · exact evLenM_sound hw ho rfl hρ h
  · rename_i t m k ok ho
    split at h
    · rename_i mv kv hm hk; exact one (aLookup_sound (P := P) hw (hρ _ _ hm) (hρ _ _ hk) h) (by simp only [execOp, ho])
    · simp at h
  · rename_i fn first cap ho
    split at h
    · rename_i a b h1 h2
      simp at h; subst h
      have r1 := aArgs_sound hρ _ _ h1
      have r2 := aArgs_sound hρ _ _ h2
      refine ⟨.func fn (first.map ρ') (cap.map ρ'), by simp [execOp, ho, Instr.makeFunc], ?_⟩
      refine .func _ _ _ _ _ (by have := r1.1; simpa using this) (by have := r2.1; simpa using this) (fun i h h' => ?_) (fun i h h' => ?_)
      · exact r1.2 i _ _ (by simp at h; simp [h]) (by simp at h'; simp [h'])
      · exact r2.2 i _ _ (by simp at h; simp [h]) (by simp at h'; simp [h'])
    · simp at h
  · exact evPure_sound hρ h
end
end
end Go.Ev
