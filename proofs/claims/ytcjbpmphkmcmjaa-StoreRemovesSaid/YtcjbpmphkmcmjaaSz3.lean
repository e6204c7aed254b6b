/- An evaluator of the model's code, sound for every world, second edition: part 3. -/
import Derived.Test.YtcjbpmphkmcmjaaSz2
namespace Go.Ev
noncomputable section
open Go.RowKit
inductive Res where
  | val (v : Value)
  | skip
  | enter (f : FuncId) (args : List Value)
  | defer (d : Deferred)
  | recov
  | panic (v : Value)
def wrK {β : Type} : List Value → Nat → List Value → (List Value → β) → β
  | l, _, [], k => k l
  | [], _, _ :: _, k => k []
  | _ :: l, 0, v :: vs, k => wrK l 0 vs fun l' => k (v :: l')
  | x :: l, p + 1, v :: vs, k => wrK l p (v :: vs) fun l' => k (x :: l')
theorem ovr_zero (x : Value) (l : List Value) (v : Value) (vs : List Value) : ovr (x :: l) 0 (v :: vs) = v :: ovr l 0 vs := by simp [ovr]
theorem ovr_succ (x : Value) (l : List Value) (p : Nat) (vs : List Value) : ovr (x :: l) (p + 1) vs = x :: ovr l p vs := by
  simp only [ovr, List.take_succ_cons, List.cons_append]
  rw [show p + 1 + vs.length = (p + vs.length) + 1 by omega, List.drop_succ_cons]
theorem wrK_eq {β : Type} : ∀ (l : List Value) (p : Nat) (vs : List Value) (k : List Value → β), p + vs.length ≤ l.length → wrK l p vs k = k (ovr l p vs) := by
  intro l
  induction l with
  | nil => intro p vs k h; cases vs with
    | nil => simp [wrK, ovr_nil]
    | cons v vs => simp at h
  | cons x l ih =>
    intro p vs k h
    cases vs with
    | nil => simp [wrK, ovr_nil]
    | cons v vs =>
      cases p with
      | zero => simp only [wrK]; rw [ih 0 vs _ (by simp at h ⊢; omega), ovr_zero]
      | succ p => simp only [wrK]; rw [ih p (v :: vs) _ (by simp at h ⊢; omega), ovr_succ]
def allOne : List Value → Bool
  | [] => true
  | v :: r => v.oneCell' && allOne r
theorem VR.one {μ : Mu} {v v' : Value} (h : VR μ v v') : v'.oneCell' = v.oneCell' := by cases h <;> rfl
theorem VRs.one {μ : Mu} {l l' : List Value} (h : VRs μ l l') (ha : allOne l = true) : ∀ v ∈ l', v.oneCell' = true := by
  induction l generalizing l' with
  | nil =>
    have h0 := h.1
    intro v hv
    cases l' with
    | nil => simp at hv
    | cons a b => simp at h0
  | cons x r ih =>
    obtain ⟨b, m, rfl, h1, h2⟩ := VRs.uncons h
    simp only [allOne, Bool.and_eq_true] at ha
    intro v hv
    rcases List.mem_cons.1 hv with rfl | hv
    · rw [h1.one]; exact ha.1
    · exact ih h2 ha.2 v hv
def putCells (rows : Tr Row) (r k : Nat) (vs : List Value) : Option (Tr Row) :=
  match rows.find r with
  | some ⟨cells, false, .cells s⟩ =>
    bif Nat.ble (k + vs.length) cells.length && allOne vs && Nat.blt r Tr.top then wrK cells k vs fun l => some (rows.put r (some ⟨l, false, .cells s⟩)) else none
  | _ => none
theorem find_put_fun (t : Tr Row) (q : Nat) (x : Option Row) (h : q < Tr.top) : (t.put q x).find = setF t.find q x := by
  funext m; rw [Tr.find_put _ _ _ _ h]; rfl
theorem setF_setF (F : Nat → Option Row) (q : Nat) (x y : Option Row) : setF (setF F q x) q y = setF F q y := by
  funext m; unfold setF; split <;> rfl
theorem ovr_drop_take {α : Type} (L : List α) (o k m : Nat) (vs : List α) (h : k + vs.length ≤ m) (hL : o + m ≤ L.length) : ((ovr L (o + k) vs).drop o).take m = ovr ((L.drop o).take m) k vs := by
  have hlen : (ovr L (o + k) vs).length = L.length := ovr_length _ _ _ (by omega)
  apply List.ext_getElem?
  intro i
  rw [List.getElem?_take, ovr_get _ _ _ (by simp; omega), List.getElem?_take]
  by_cases hi : i < m
  · rw [if_pos hi, List.getElem?_drop, ovr_get _ _ _ (by omega), if_pos hi, List.getElem?_drop]
    by_cases h2 : k ≤ i ∧ i < k + vs.length
    · rw [if_pos ⟨by omega, by omega⟩, if_pos h2]; congr 1; omega
    · rw [if_neg (by omega), if_neg h2]
  · rw [if_neg hi, if_neg hi, if_neg (by omega)]
section
variable {P : Program} {B : Base} {n : Nat} {μ : Mu} {F : Nat → Option Row} {w : World}
theorem write_row (hw : WR B μ F n w) {r : Nat} {cells : List Value} {sy : Bool} (hr : F r = some ⟨cells, false, .cells sy⟩) {k : Nat} {vs vs' : List Value} (hv : VRs μ vs vs') (hk : k + vs.length ≤ cells.length)
    (h1 : ∀ v ∈ vs', v.oneCell' = true) {b o s : Nat} (hm : μ r = some (b, o, s)) :
    ∃ w', (storeCells ⟨b, o + k, none⟩ vs').run P w = .ok () w' ∧ WR B μ (setF F r (some ⟨ovr cells k vs, false, .cells sy⟩)) n w' ∧ Keep μ F w μ (setF F r (some ⟨ovr cells k vs, false, .cells sy⟩)) w' := by
  by_cases hne : 0 < cells.length
  · obtain ⟨b', o', s', c, e, lo, hi, g1, g2, g3, g4, g5, g6, g7⟩ := hw.rows r _ hr (void_cells hne)
    rw [hm] at g1
    simp only [Option.some.injEq, Prod.mk.injEq] at g1
    obtain ⟨rfl, rfl, rfl⟩ := g1
    simp only at g4 g5
    obtain ⟨w', hr', hb, ho⟩ := run_storeCells_blk (P := P) b (o + k) e (lo, hi) vs' 0 c w g2 (by have := hv.1; omega) h1 (by rw [g3]; exact (g6 rfl).2)
    refine ⟨w', hr', ?_⟩
    have hlen := ovr_length cells k vs hk
    have key := WR.rewrite (q := r) (n' := n) hw hr (void_cells hne) rfl hm (Nat.le_refl _) (Le.refl μ) hw.fresh (fun z hz => (hw.hole z hz).1) ho (row' := ⟨ovr cells k vs, false, .cells sy⟩) (o' := o) ?_ rfl
      (fun hvd => by rw [void_cells (by rw [hlen]; exact hne)] at hvd; simp at hvd) hm (fun x _ _ y hy _ => hy) (fun _ _ => rfl)
    · rwa [setF_setF] at key
    · refine ⟨b, o, s, _, e, lo, hi, hm, hb, ?_, ?_, ?_, fun _ => g6 rfl, by simp⟩
      · rw [List.size_toArray, ovr_length _ _ _ (by simp; have := hv.1; omega)]; simpa using g3
      · rw [hlen]; exact g4
      · rw [hlen]
        simp only [Nat.add_zero]
        rw [ovr_drop_take _ _ _ _ _ (by have := hv.1; omega) (by simp; omega)]
        exact g5.ovr hv k
  · have hc : cells = [] := List.eq_nil_of_length_eq_zero (by omega)
    have hvs : vs = [] := List.eq_nil_of_length_eq_zero (by omega)
    subst hc; subst hvs
    have hvs' : vs' = [] := List.eq_nil_of_length_eq_zero (by have := hv.1; simpa using this.symm)
    subst hvs'
    have e : setF F r (some ⟨ovr [] k [], false, .cells sy⟩) = F := by
      funext x; unfold setF; split
      · rename_i e; subst e; rw [hr]; simp [ovr]
      · rfl
    rw [e]
    exact ⟨w, rfl, hw, Keep.refl _ _ _⟩
theorem putCells_sound {rows rows' : Tr Row} (hw : WR B μ rows.find n w) {r k : Nat} {vs vs' : List Value} (hv : VRs μ vs vs') (h : putCells rows r k vs = some rows') {b o s : Nat} (hm : μ r = some (b, o, s)) :
    ∃ w', (storeCells ⟨b, o + k, none⟩ vs').run P w = .ok () w' ∧ WR B μ rows'.find n w' ∧ Keep μ rows.find w μ rows'.find w' := by
  unfold putCells at h
  split at h
  · rename_i cells sy hr
    cases hb : (Nat.ble (k + vs.length) cells.length && allOne vs && Nat.blt r Tr.top) with
    | false => simp only [hb, cond_false] at h; simp at h
    | true =>
      simp only [hb, cond_true] at h
      simp only [Bool.and_eq_true] at hb
      have b1 := Nat.le_of_ble_eq_true hb.1.1
      have b3 : r < Tr.top := Nat.le_of_ble_eq_true hb.2
      rw [wrK_eq _ _ _ _ b1] at h
      simp at h; subst h
      rw [find_put_fun _ _ _ b3]
      exact write_row hw hr hv b1 (hv.one hb.1.2) hm
  · simp at h
def cT0 (P : Program) : Nat → TypeId → Option (List TypeId)
  | 0, _ => none
  | d + 1, t =>
    match P.underlying t with
    | some (.struct fs) => fs.toList.foldr (fun f r => match cT0 P d f.type, r with | some a, some b => some (a ++ b) | _, _ => none) (some [])
    | some (.array n el) => (match cT0 P d el with | some a => some ((List.replicate n a).flatten) | none => none)
    | some _ => some [t]
    | none => none
def tsOf (P : Program) (t : TypeId) (len : Nat) : List TypeId := match cT0 P 8 t with | some ts => (List.replicate len ts).flatten | none => []
def hasSl : Value → Bool
  | .slice none _ _ | .slice (some ⟨_, _, none⟩) _ _ => true
  | _ => false
def goesTo (rows : Tr Row) : Value → Bool
  | .slice (some ⟨r, _, none⟩) _ _ | .pointer (some ⟨r, _, none⟩) => (match rows.find r with | some ⟨_, false, .cells true⟩ => true | _ => false)
  | _ => false
def shown (cells : List Value) (k n e : Nat) : List Value := (cells.drop k).take (n * e)
def frz1 (P : Program) (rows : Tr Row) (t : TypeId) (v : Value) : Option (Value × Tr Row) :=
  match v with
  | .slice none 0 0 =>
    match P.underlying t with
    | some (.slice el) => (match szOf P el with | some m => some (.slice (some ⟨gCode [], 0, some 0⟩) 0 m, rows) | none => none)
    | _ => none
  | .slice (some ⟨r, k, none⟩) n e =>
    match rows.find r with
    | some ⟨cells, false, .cells _⟩ =>
      bif Nat.ble (k + n * e) cells.length && (Nat.blt 0 e && Nat.blt r Tr.top) && gAll (shown cells k n e) then
        some (.slice (some ⟨gCode (shown cells k n e), 0, some 0⟩) n e, rows.put r none) else none
    | _ => none
  | v => bif gOk v then some (v, rows) else none
def frzs (P : Program) : List TypeId → List Value → Tr Row → Option (List Value × Tr Row)
  | [], [], rows => some ([], rows)
  | t :: ts, v :: vs, rows =>
    match frz1 P rows t v with
    | some (v', rows1) => (match frzs P ts vs rows1 with | some (vs', rows2) => some (v' :: vs', rows2) | none => none)
    | none => none
  | _, _, _ => none
def aFrz (P : Program) (rows : Tr Row) (trig : Bool) (ts : List TypeId) (vs : List Value) : Option (List Value × Tr Row) :=
  bif trig && vs.any hasSl then frzs P ts vs rows else some (vs, rows)
def aFrzRow (P : Program) (rows : Tr Row) (sy : Bool) (elem : TypeId) (sv : Value) : Option (Tr Row) :=
  match sy, sv with
  | true, .slice (some ⟨r, _, none⟩) sl _ =>
    match rows.find r with
    | some ⟨cells, false, .cells false⟩ =>
      bif cells.any hasSl then
        match frzs P (tsOf P elem sl) cells rows with
        | some (c1, rows1) =>
          match rows1.find r with
          | some ⟨c0, false, .cells false⟩ => bif Nat.beq c0.length c1.length && Nat.blt r Tr.top then some (rows1.put r (some ⟨c1, false, .cells false⟩)) else none
          | _ => none
        | none => none
      else some rows
    | _ => some rows
  | _, _ => some rows
theorem WR.kill0 (hw : WR B μ F n w) (r : Nat) : WR B μ (setF F r none) n w := by
  have sub : ∀ x y, setF F r none x = some y → F x = some y := by
    intro x y h; unfold setF at h; split at h
    · simp at h
    · exact h
  exact ⟨hw.base, hw.hole, hw.fresh, fun x y h => hw.rows x y (sub x y h), fun x y h => hw.vrow x y (sub x y h), fun x y a b c d e f g h1 h2 => hw.apart x y a b c d e f g (sub _ _ h1) (sub _ _ h2),
    fun z i b o s hm => ⟨(hw.gho z i b o s hm).1, fun ⟨x, row, o', s', h1, h2⟩ => (hw.gho z i b o s hm).2 ⟨x, row, o', s', sub _ _ h1, h2⟩⟩, hw.gfr, hw.tab⟩
theorem WR.ghost (hw : WR B μ F n w) {F0 : Nat → Option Row} (h0 : ∀ r row, F r = some row → F0 r = some row) (hht : ∀ z, B.hole z → z < Tr.top) {z b o s : Nat} (hg : GIn μ w z b o s) (ho : ¬ Owns μ F b) (ho0 : Owns μ F0 b) :
    ∃ i, μ (gAt z i) = none ∧ WR B (setM μ (gAt z i) (b, o, s)) F n w ∧ Keep μ F0 w (setM μ (gAt z i) (b, o, s)) F w := by
  obtain ⟨K, hK⟩ := hw.gfr
  have hle := le_setM (hK z K (Nat.le_refl _)) (b, o, s)
  have hne : ∀ r, r < Tr.top → setM μ (gAt z K) (b, o, s) r = μ r := fun r hr => by
    unfold setM; rw [if_neg (by have := gAt_ge z K; omega)]
  have hrow : ∀ r row, F r = some row → setM μ (gAt z K) (b, o, s) r = μ r := fun r row hr => by
    unfold setM
    split
    · rename_i e
      exfalso
      subst e
      cases hv : row.void with
      | true => obtain ⟨b1, o1, s1, h1, _⟩ := hw.vrow _ row hr hv; rw [hK z K (Nat.le_refl _)] at h1; simp at h1
      | false => obtain ⟨b1, o1, s1, x, h1, _⟩ := (hw.rows _ row hr hv).mu; rw [hK z K (Nat.le_refl _)] at h1; simp at h1
    · rfl
  have hown : ∀ b', Owns (setM μ (gAt z K) (b, o, s)) F b' → Owns μ F b' := fun b' ⟨r, row, o', s', h1, h2, h3, h4⟩ => ⟨r, row, o', s', h1, h2, h3, by rw [hrow r row h1] at h4; exact h4⟩
  have hcase : ∀ y i b' o' s', setM μ (gAt z K) (b, o, s) (gAt y i) = some (b', o', s') → (y = z ∧ i = K ∧ b' = b ∧ o' = o ∧ s' = s) ∨ μ (gAt y i) = some (b', o', s') := by
    intro y i b' o' s' hm
    unfold setM at hm
    split at hm
    · rename_i e
      obtain ⟨e1, e2⟩ := gAt_inj e
      simp only [Option.some.injEq, Prod.mk.injEq] at hm
      exact .inl ⟨e1, e2, hm.1.symm, hm.2.1.symm, hm.2.2.symm⟩
    · exact .inr hm
  refine ⟨K, hK z K (Nat.le_refl _), ?_, ?_⟩
  · refine ⟨hw.base, fun y hy => ?_, fun r h1 h2 => by rw [hne r h2]; exact hw.fresh r h1 h2, fun r row hr hv => ?_, fun r row hr hv => ?_, fun r q x y b1 o1 s1 o2 s2 hx hy hxv hyv hxr hyr h1 h2 => ?_, fun y i b' o' s' hm => ?_, ?_, hw.tab⟩
    · obtain ⟨h1, h2⟩ := hw.hole y hy
      exact ⟨by rw [hne y (hht y hy)]; exact h1, h2⟩
    · exact (hw.rows r row hr hv).kept hle fun _ _ _ _ => rfl
    · obtain ⟨b1, o1, s1, h1, h2⟩ := hw.vrow r row hr hv; exact ⟨b1, o1, s1, hle _ _ h1, h2⟩
    · rw [hrow r x hx] at h1; rw [hrow q y hy] at h2
      exact hw.apart r q x y b1 o1 s1 o2 s2 hx hy hxv hyv hxr hyr h1 h2
    · rcases hcase y i b' o' s' hm with ⟨rfl, rfl, rfl, rfl, rfl⟩ | hm
      · exact ⟨hg.kept hle rfl, fun h => ho (hown _ h)⟩
      · exact ⟨(hw.gho y i b' o' s' hm).1.kept hle rfl, fun h => (hw.gho y i b' o' s' hm).2 (hown _ h)⟩
    · refine ⟨K + 1, fun y i hi => ?_⟩
      unfold setM
      rw [if_neg (fun e => by have := (gAt_inj e).2; omega)]
      exact hK y i (by omega)
  · refine ⟨rfl, rfl, rfl, Nat.le_refl _, fun _ _ _ => rfl, fun b' h => .inl (by obtain ⟨r, row, o', s', k1, k2⟩ := hown b' h; exact ⟨r, row, o', s', h0 _ _ k1, k2⟩), fun y i b' o' s' hm => ?_⟩
    rcases hcase y i b' o' s' hm with ⟨_, _, rfl, _, _⟩ | hm
    · exact .inr (.inl ho0)
    · exact .inl hm
theorem WR.freeze (hw : WR B μ F n w) (hht : ∀ z, B.hole z → z < Tr.top) {r k m e : Nat} {cells : List Value} {sy : Bool} (hr : F r = some ⟨cells, false, .cells sy⟩) (hk : k + m * e ≤ cells.length) (he : 0 < e) (hg : gAll (shown cells k m e) = true) {v' : Value} (hv : VR μ (.slice (some ⟨r, k, none⟩) m e) v') :
    ∃ μ', Le μ μ' ∧ WR B μ' (setF F r none) n w ∧ Keep μ F w μ' (setF F r none) w ∧ VR μ' (.slice (some ⟨gCode (shown cells k m e), 0, some 0⟩) m e) v' := by
  have sub : ∀ x y, setF F r none x = some y → F x = some y := by
    intro x y h; unfold setF at h; split at h
    · simp at h
    · exact h
  have kk : Keep μ F w μ (setF F r none) w := ⟨rfl, rfl, rfl, Nat.le_refl _, fun _ _ _ => rfl, fun b ⟨x, row, o', s', h1, h2⟩ => .inl ⟨x, row, o', s', sub _ _ h1, h2⟩, fun _ _ _ _ _ h => .inl h⟩
  rcases Nat.eq_zero_or_pos cells.length with h0 | hne
  · have hm0 : m = 0 := by
      rcases Nat.eq_zero_or_pos m with h | h
      · exact h
      · have := Nat.mul_pos h he; omega
    subst hm0
    refine ⟨μ, .refl _, hw.kill0 r, kk, ?_⟩
    cases hv with
    | slice0 => exact .gsl0 _ _ _ _
    | slice _ _ _ _ b o s c hm hn hc =>
      have hcl : cells = [] := List.eq_nil_of_length_eq_zero h0
      subst hcl
      obtain ⟨b2, o2, s2, h2, h3⟩ := hw.vrow r _ hr rfl
      rw [hm] at h2
      simp only [Option.some.injEq, Prod.mk.injEq] at h2
      obtain ⟨rfl, rfl, rfl⟩ := h2
      have := h3 rfl
      have hc0 : c = 0 := by
        rcases Nat.eq_zero_or_pos c with h | h
        · exact h
        · have := Nat.mul_pos h he; omega
      subst hc0
      exact .gsl0 _ _ _ _
  · cases hv with
    | slice0 =>
      exact ⟨μ, .refl _, hw.kill0 r, kk, .gsl0 _ _ _ _⟩
    | slice _ _ _ _ b o s c hm hn hc =>
      obtain ⟨c1, e1, fr, g1, g2, g3, g4⟩ := row_cells hw hr hne (k := k) (m := m * e) hk hm
      have hG : GIn μ w (gCode (shown cells k m e)) b (o + k) s := by
        have hl : (shown cells k m e).length = m * e := by unfold shown; simp; omega
        refine ⟨c1, e1, fr, g1, g2, ?_, ?_⟩ <;> rw [gCells_code hg, hl]
        · omega
        · exact g4
      have hno : ¬ Owns μ (setF F r none) b := by
        rintro ⟨q, y, o', s', h1, h2, h3, h4⟩
        have := hw.apart q r y _ b o' s' o s (sub _ _ h1) hr h2 (void_cells hne) h3 rfl h4 hm
        subst this
        simp [setF] at h1
      obtain ⟨i, f1, f2, f3⟩ := (hw.kill0 r).ghost sub hht hG hno ⟨r, _, o, s, hr, void_cells hne, rfl, hm⟩
      refine ⟨_, le_setM f1 _, f2, f3, ?_⟩
      have := VR.gsl (μ := setM μ (gAt (gCode (shown cells k m e)) i) (b, o + k, s)) (gCode (shown cells k m e)) 0 m e i b (o + k) s c (by simp [setM]) hn (by omega)
      simpa using this
theorem frz1_sound {rows rows' : Tr Row} (hw : WR B μ rows.find n w) (hht : ∀ z, B.hole z → z < Tr.top) {t : TypeId} {v v1 v' : Value} (hv : VR μ v v') (h : frz1 P rows t v = some (v1, rows')) :
    ∃ μ', Le μ μ' ∧ WR B μ' rows'.find n w ∧ Keep μ rows.find w μ' rows'.find w ∧ VR μ' v1 v' := by
  unfold frz1 at h
  split at h
  · split at h
    · split at h
      · simp only [Option.some.injEq, Prod.mk.injEq] at h
        obtain ⟨rfl, rfl⟩ := h
        cases hv
        exact ⟨μ, .refl _, hw, Keep.refl _ _ _, .gsl0 _ _ _ _⟩
      · simp at h
    · simp at h
  · rename_i r k m e
    split at h
    · rename_i cells sy hr
      cases hc : (Nat.ble (k + m * e) cells.length && (Nat.blt 0 e && Nat.blt r Tr.top) && gAll (shown cells k m e)) with
      | false => rw [hc] at h; simp at h
      | true =>
        rw [hc] at h
        simp only [cond_true, Option.some.injEq, Prod.mk.injEq] at h
        obtain ⟨rfl, rfl⟩ := h
        simp only [Bool.and_eq_true] at hc
        obtain ⟨⟨c1, c2, c3⟩, c4⟩ := hc
        rw [find_put_fun _ _ _ (Nat.le_of_ble_eq_true c3)]
        exact hw.freeze hht hr (Nat.le_of_ble_eq_true c1) (Nat.le_of_ble_eq_true c2) c4 hv
    · simp at h
  · cases hc : gOk v with
    | false => rw [hc] at h; simp at h
    | true =>
      rw [hc] at h
      simp only [cond_true, Option.some.injEq, Prod.mk.injEq] at h
      obtain ⟨rfl, rfl⟩ := h
      exact ⟨μ, .refl _, hw, Keep.refl _ _ _, hv⟩
theorem frzs_sound (hht : ∀ z, B.hole z → z < Tr.top) : ∀ (ts : List TypeId) (vs vs1 vs' : List Value) (μ : Mu) (rows rows' : Tr Row), WR B μ rows.find n w → VRs μ vs vs' → frzs P ts vs rows = some (vs1, rows') →
    ∃ μ', Le μ μ' ∧ WR B μ' rows'.find n w ∧ Keep μ rows.find w μ' rows'.find w ∧ VRs μ' vs1 vs' := by
  intro ts
  induction ts with
  | nil =>
    intro vs vs1 vs' μ rows rows' hw hv h
    cases vs with
    | nil => simp only [frzs, Option.some.injEq, Prod.mk.injEq] at h; obtain ⟨rfl, rfl⟩ := h; exact ⟨μ, .refl _, hw, Keep.refl _ _ _, hv⟩
    | cons => simp [frzs] at h
  | cons t ts ih =>
    intro vs vs1 vs' μ rows rows' hw hv h
    cases vs with
    | nil => simp [frzs] at h
    | cons v vs =>
      obtain ⟨w', ws', rfl, h1, h2⟩ := VRs.uncons hv
      simp only [frzs] at h
      split at h
      · rename_i v1 rows1 hf
        split at h
        · rename_i vs2 rows2 hfs
          simp only [Option.some.injEq, Prod.mk.injEq] at h
          obtain ⟨rfl, rfl⟩ := h
          obtain ⟨μ1, a1, a2, a3, a4⟩ := frz1_sound hw hht h1 hf
          obtain ⟨μ2, b1, b2, b3, b4⟩ := ih _ _ _ _ _ _ a2 (h2.le a1) hfs
          exact ⟨μ2, a1.trans b1, b2, a3.trans b3, .cons (a4.le b1) b4⟩
        · simp at h
      · simp at h
theorem aFrz_sound {rows rows' : Tr Row} (hw : WR B μ rows.find n w) (hht : ∀ z, B.hole z → z < Tr.top) {trig : Bool} {ts : List TypeId} {vs vs1 vs' : List Value} (hv : VRs μ vs vs') (h : aFrz P rows trig ts vs = some (vs1, rows')) :
    ∃ μ', Le μ μ' ∧ WR B μ' rows'.find n w ∧ Keep μ rows.find w μ' rows'.find w ∧ VRs μ' vs1 vs' ∧ vs1.length = vs.length := by
  unfold aFrz at h
  cases hc : (trig && vs.any hasSl) with
  | false =>
    rw [hc] at h
    simp only [cond_false, Option.some.injEq, Prod.mk.injEq] at h
    obtain ⟨rfl, rfl⟩ := h
    exact ⟨μ, .refl _, hw, Keep.refl _ _ _, hv, rfl⟩
  | true =>
    rw [hc] at h
    obtain ⟨μ', a1, a2, a3, a4⟩ := frzs_sound hht _ _ _ _ _ _ _ hw hv h
    exact ⟨μ', a1, a2, a3, a4, by rw [a4.1, hv.1]⟩
theorem WR.redo (hw : WR B μ F n w) {r : Nat} {c0 c1 : List Value} {s0 s1 : Bool} (hr : F r = some ⟨c0, false, .cells s0⟩) (hl : c0.length = c1.length) (hne : 0 < c1.length)
    (hv : ∀ b o sz c e fr, μ r = some (b, o, sz) → w.heap[b]? = some (.cells c e fr) → VRs μ c1 ((c.toList.drop o).take c1.length)) : WR B μ (setF F r (some ⟨c1, false, .cells s1⟩)) n w := by
  have v0 : (⟨c0, false, .cells s0⟩ : Row).void = false := void_cells (by omega)
  have v1 : (⟨c1, false, .cells s1⟩ : Row).void = false := void_cells hne
  have old : ∀ x y, setF F r (some ⟨c1, false, .cells s1⟩) x = some y → ∃ y0, F x = some y0 ∧ y0.void = y.void ∧ y0.ro = y.ro := by
    intro x y h
    unfold setF at h
    split at h
    · rename_i e
      subst e
      simp only [Option.some.injEq] at h
      subst h
      exact ⟨_, hr, by rw [v0, v1], rfl⟩
    · exact ⟨y, h, rfl, rfl⟩
  refine ⟨hw.base, hw.hole, hw.fresh, fun x y h hvd => ?_, fun x y h hvd => ?_, fun x y a b c d e f g h1 h2 k1 k2 k3 k4 m1 m2 => ?_, fun z i b o s hm => ⟨(hw.gho z i b o s hm).1, fun ho => (hw.gho z i b o s hm).2 ?_⟩, hw.gfr, hw.tab⟩
  · unfold setF at h
    split at h
    · rename_i e
      subst e
      simp only [Option.some.injEq] at h
      subst h
      obtain ⟨b, o, s, c, e, lo, hi, m1, m2, m3, m4, m5, m6, m7⟩ := hw.rows _ _ hr v0
      exact ⟨b, o, s, c, e, lo, hi, m1, m2, m3, by simp only at m4 ⊢; omega, hv b o s c e (lo, hi) m1 m2, m6, m7⟩
    · exact hw.rows x y h hvd
  · unfold setF at h
    split at h
    · simp only [Option.some.injEq] at h
      subst h
      rw [v1] at hvd; simp at hvd
    · exact hw.vrow x y h hvd
  · obtain ⟨y1, a1, a2, a3⟩ := old _ _ h1
    obtain ⟨y2, b1, b2, b3⟩ := old _ _ h2
    exact hw.apart _ _ _ _ _ _ _ _ _ a1 b1 (by rw [a2]; exact k1) (by rw [b2]; exact k2) (by rw [a3]; exact k3) (by rw [b3]; exact k4) m1 m2
  · obtain ⟨x, row, o', s', h1, h2, h3, h4⟩ := ho
    obtain ⟨y1, a1, a2, a3⟩ := old _ _ h1
    exact ⟨x, y1, o', s', a1, by rw [a2]; exact h2, by rw [a3]; exact h3, h4⟩
theorem aFrzRow_sound {rows rows' : Tr Row} (hw : WR B μ rows.find n w) (hht : ∀ z, B.hole z → z < Tr.top) {sy : Bool} {elem : TypeId} {sv : Value} (h : aFrzRow P rows sy elem sv = some rows') :
    ∃ μ', Le μ μ' ∧ WR B μ' rows'.find n w ∧ Keep μ rows.find w μ' rows'.find w := by
  unfold aFrzRow at h
  split at h
  · rename_i r k sl e
    split at h
    · rename_i cells hr
      cases hc : cells.any hasSl with
      | false =>
        rw [hc] at h
        simp only [cond_false, Option.some.injEq] at h
        subst h
        exact ⟨μ, .refl _, hw, Keep.refl _ _ _⟩
      | true =>
        rw [hc] at h
        simp only [cond_true] at h
        split at h
        · rename_i c1 rows1 hf
          split at h
          · rename_i c0 hr1
            cases hb : (Nat.beq c0.length c1.length && Nat.blt r Tr.top) with
            | false => rw [hb] at h; simp at h
            | true =>
              rw [hb] at h
              simp only [cond_true, Option.some.injEq] at h
              subst h
              simp only [Bool.and_eq_true] at hb
              have hlen := Nat.eq_of_beq_eq_true hb.1
              have hpos : 0 < cells.length := by
                cases cells with
                | nil => simp at hc
                | cons => simp
              obtain ⟨b, o, s, c, ee, lo, hi, m1, m2, m3, m4, m5, m6, m7⟩ := hw.rows _ _ hr (void_cells hpos)
              obtain ⟨μ1, a1, a2, a3, a4⟩ := frzs_sound hht _ _ _ _ _ _ _ hw m5 hf
              have hcl : c1.length = cells.length := by rw [a4.1, ← m5.1]
              refine ⟨μ1, a1, ?_, ?_⟩
              · rw [find_put_fun _ _ _ (Nat.le_of_ble_eq_true hb.2)]
                refine a2.redo hr1 hlen (by omega) (fun b' o' sz' c' e' fr' n1 n2 => ?_)
                have n3 := a1 r _ m1
                rw [n3] at n1
                simp only [Option.some.injEq, Prod.mk.injEq] at n1
                obtain ⟨rfl, rfl, rfl⟩ := n1
                rw [m2] at n2
                have q := Option.some.inj n2
                injection q with q1 q2 q3
                subst q1
                rw [hcl]; exact a4
              · rw [find_put_fun _ _ _ (Nat.le_of_ble_eq_true hb.2)]
                refine ⟨a3.os, a3.tape, a3.output, a3.size, a3.block, fun b' ho => a3.owns b' ?_, a3.gnew⟩
                obtain ⟨x, row, o', s', h1, h2, h3, h4⟩ := ho
                unfold setF at h1
                split at h1
                · rename_i e1
                  subst e1
                  exact ⟨_, _, o', s', hr1, void_cells (by omega), rfl, h4⟩
                · exact ⟨x, row, o', s', h1, h2, h3, h4⟩
          · simp at h
        · simp at h
    · simp only [Option.some.injEq] at h
      subst h
      exact ⟨μ, .refl _, hw, Keep.refl _ _ _⟩
  · simp only [Option.some.injEq] at h
    subst h
    exact ⟨μ, .refl _, hw, Keep.refl _ _ _⟩
def aStore (P : Program) (rows : Tr Row) (t : TypeId) (a v : Value) : Option (Tr Row) :=
  match a, szOf P t with
  | .pointer (some ⟨r, k, none⟩), some m =>
    bif Nat.beq v.cells.toList.length m then
      match aFrz P rows (goesTo rows (.pointer (some ⟨r, k, none⟩))) (tsOf P t 1) v.cells.toList with
      | some (vs, rows1) => putCells rows1 r k vs
      | none => none
    else none
  | _, _ => none
theorem aStore_sound {rows rows' : Tr Row} (hw : WR B μ rows.find n w) (hnt : n ≤ Tr.top) {t : TypeId} {a v a' v' : Value} (ha : VR μ a a') (hv : VR μ v v') (h : aStore P rows t a v = some rows') :
    ∃ μ' w', (Instr.storeAt t a' v').run P w = .ok () w' ∧ Le μ μ' ∧ WR B μ' rows'.find n w' ∧ Keep μ rows.find w μ' rows'.find w' := by
  unfold aStore at h
  split at h
  · rename_i r k m hz
    cases hb : Nat.beq v.cells.toList.length m with
    | false => simp only [hb, cond_false] at h; simp at h
    | true =>
      simp only [hb, cond_true] at h
      have b1 := Nat.eq_of_beq_eq_true hb
      split at h
      · rename_i vs rows1 hf
        obtain ⟨μ1, f1, f2, f3, f4, f5⟩ := aFrz_sound hw (fun z hz => by have := (hw.hole z hz).2; omega) hv.cells hf
        cases ha with
        | ptr _ _ b o s hm =>
          obtain ⟨w', h1, h2, h3⟩ := putCells_sound (P := P) f2 f4 h (f1 _ _ hm)
          refine ⟨μ1, w', ?_, f1, h2, f3.trans h3⟩
          have hs : v'.cells.size = m := by have := hv.cells.1; simp at this b1; omega
          simp only [Instr.storeAt, Instr.sureAddr, Sem.run_bind, Sem.run_pure, Result.andThen_ok, storeVar, szOf_run hz]
          rw [if_neg (by omega)]
          simpa using h1
      · simp at h
  · simp at h
theorem Owns.kill {r b : Nat} (h : Owns μ (setF F r none) b) : Owns μ F b := by
  obtain ⟨x, row, o, s, h1, h2, h3⟩ := h
  refine ⟨x, row, o, s, ?_, h2, h3⟩
  unfold setF at h1; split at h1
  · simp at h1
  · exact h1
theorem WR.kill (hw : WR B μ F n w) (r : Nat) : WR B μ (setF F r none) n w := by
  have sub : ∀ x y, setF F r none x = some y → F x = some y := by
    intro x y h; unfold setF at h; split at h
    · simp at h
    · exact h
  exact ⟨hw.base, hw.hole, hw.fresh, fun x y h => hw.rows x y (sub x y h), fun x y h => hw.vrow x y (sub x y h), fun x y a b c d e f g h1 h2 => hw.apart x y a b c d e f g (sub _ _ h1) (sub _ _ h2),
    fun z i b o s hm => ⟨(hw.gho z i b o s hm).1, fun ho => (hw.gho z i b o s hm).2 ho.kill⟩, hw.gfr, hw.tab⟩
theorem Keep.kill {μ' : Mu} {F' : Nat → Option Row} {w' : World} (h : Keep μ F w μ' F' w') (r : Nat) : Keep μ F w μ' (setF F' r none) w' :=
  ⟨h.os, h.tape, h.output, h.size, h.block, fun b hb => h.owns b hb.kill, h.gnew⟩
theorem setF_comm (F : Nat → Option Row) {q r : Nat} (h : q ≠ r) (x y : Option Row) : setF (setF F q x) r y = setF (setF F r y) q x := by
  funext m; unfold setF
  by_cases h1 : m = q
  · subst h1; simp [h]
  · by_cases h2 : m = r
    · subst h2; simp [h1]
    · simp [h1, h2]
theorem growBy_le (need : Nat) : ∀ (k c : Nat), c ≤ need → Builtin.growBy need k c ≤ 2 * need + 768 := by
  intro k
  induction k with
  | zero => intro c h; simp [Builtin.growBy]; omega
  | succ k ih =>
    intro c h
    simp only [Builtin.growBy]
    split
    · omega
    · by_cases h2 : c + (c + 768) / 4 ≤ need
      · exact ih _ h2
      · cases k with
        | zero => simp [Builtin.growBy]; omega
        | succ k =>
          simp only [Builtin.growBy]
          rw [if_pos (by omega)]; omega
theorem next_le {need old : Nat} (h : old < need) : Builtin.nextslicecap need old ≤ 2 * need + 768 := by
  unfold Builtin.nextslicecap
  split
  · omega
  · split
    · omega
    · exact growBy_le _ _ _ (by omega)
theorem run_askRoom (k : Nat) : (askRoom k).run P w = .ok () w := by
  unfold askRoom; split <;> rfl
def srcCells (rows : Tr Row) (m : Nat) : Value → Option (Nat × List Value × Bool)
  | .slice none 0 0 => some (0, [], false)
  | .slice (some ⟨r, k, none⟩) len _ =>
    match rows.find r with
    | some ⟨cells, _, .cells s⟩ => (match cut cells k (len * m) with | some l => some (len, l, s) | none => none)
    | some _ => none
    | none => (match len with | 0 => some (0, [], false) | _ => none)
  | .slice (some ⟨r, k, some 0⟩) len _ => (match cut (gCells r) k (len * m) with | some l => some (len, l, true) | none => none)
  | .string s => bif Nat.beq m 1 then some (s.data.toList.length, s.data.toList.map fun b => .int .u8 b.toNat, true) else none
  | _ => none
theorem srcCells_sound {rows : Tr Row} (hw : WR B μ rows.find n w) {m len : Nat} {x x' : Value} {l : List Value} {sy : Bool} (hx : VR μ x x') (h : srcCells rows m x = some (len, l, sy)) :
    (Builtin.lenOf x').run P w = .ok len w ∧ ∃ l' : List Value, (∀ d, (Builtin.firstCells m len x').run P { w with drawn := d } = .ok l'.toArray { w with drawn := d }) ∧ VRs μ l l' ∧ l.length = len * m := by
  unfold srcCells at h
  split at h
  · simp at h; obtain ⟨rfl, rfl, rfl⟩ := h
    cases hx
    exact ⟨by simp [Builtin.lenOf], [], by simp [Builtin.firstCells], .nil, by simp⟩
  · rename_i r k len' c
    have hlen : (Builtin.lenOf x').run P w = .ok len' w := by cases hx <;> simp [Builtin.lenOf]
    have none0 : ∀ d, (Builtin.firstCells m 0 (.slice none 0 0)).run P { w with drawn := d } = .ok [].toArray { w with drawn := d } := by intro d; simp [Builtin.firstCells]
    split at h
    · rename_i cells ro s hr
      split at h
      · rename_i l0 hc
        simp only [Option.some.injEq, Prod.mk.injEq] at h
        obtain ⟨rfl, rfl, rfl⟩ := h
        obtain ⟨h1, h2, h3⟩ := cut_spec hc
        refine ⟨hlen, ?_⟩
        by_cases h0 : len' * m = 0
        · have : l0 = [] := by apply List.eq_nil_of_length_eq_zero; omega
          subst this
          have hl0 : ∀ (a : Addr) (w : World), (loadCells a (len' * m)).run P w = .ok #[] w := by intro a w; rw [h0]; rfl
          refine ⟨[], ?_, .nil, by simp [h0]⟩
          have ex : ∃ a cp, x' = .slice a len' cp := by cases hx <;> exact ⟨_, _, rfl⟩
          obtain ⟨a, cp, rfl⟩ := ex
          intro d
          cases a with
          | some a => simp only [Builtin.firstCells]; exact hl0 a _
          | none => simp [Builtin.firstCells]
        · have hpos : 0 < len' := by
            rcases Nat.eq_zero_or_pos len' with h | h
            · subst h; simp at h0
            · exact h
          obtain ⟨b, o, s, c', rfl, hm, hn, hcap⟩ := slice_ptr hx hpos
          obtain ⟨c0, e0, fr, g1, g2, g3, g4⟩ := row_cells (cells := cells) hw hr (by omega) (k := k) (m := len' * m) (by omega) hm
          refine ⟨_, fun d => by simp only [Builtin.firstCells]; exact run_loadCells_blk (w := { w with drawn := d }) g1 g3, ?_, h2⟩
          rw [h1]; exact g4
      · simp at h
    · simp at h
    · split at h
      · simp at h; obtain ⟨rfl, rfl, rfl⟩ := h
        refine ⟨hlen, [], ?_, .nil, by simp⟩
        have ex : ∃ a cp, x' = .slice a 0 cp := by cases hx <;> exact ⟨_, _, rfl⟩
        obtain ⟨a, cp, rfl⟩ := ex
        cases a <;> simp [Builtin.firstCells, loadCells, loadCellsFrom]
      · simp at h
  · rename_i r k len' c
    have hlen : (Builtin.lenOf x').run P w = .ok len' w := by cases hx <;> simp [Builtin.lenOf]
    split at h
    · rename_i l0 hc
      simp only [Option.some.injEq, Prod.mk.injEq] at h
      obtain ⟨rfl, rfl, rfl⟩ := h
      obtain ⟨h1, h2, h3⟩ := cut_spec hc
      refine ⟨hlen, ?_⟩
      by_cases h0 : len' * m = 0
      · have : l0 = [] := by apply List.eq_nil_of_length_eq_zero; omega
        subst this
        have hl0 : ∀ (a : Addr) (w : World), (loadCells a (len' * m)).run P w = .ok #[] w := by intro a w; rw [h0]; rfl
        refine ⟨[], ?_, .nil, by simp [h0]⟩
        have ex : ∃ a cp, x' = .slice a len' cp := by cases hx <;> exact ⟨_, _, rfl⟩
        obtain ⟨a, cp, rfl⟩ := ex
        intro d
        cases a with
        | some a => simp only [Builtin.firstCells]; exact hl0 a _
        | none => simp [Builtin.firstCells]
      · have hpos : 0 < len' := by
          rcases Nat.eq_zero_or_pos len' with h | h
          · subst h; simp at h0
          · exact h
        obtain ⟨i, b, o, s, c', rfl, hm, hn, hcap⟩ := gslice_ptr hx hpos
        obtain ⟨c0, e0, fr, g1, g2, g3, g4⟩ := g_cells hw (k := k) (m := len' * m) (by omega) hm
        refine ⟨_, fun d => by simp only [Builtin.firstCells]; exact run_loadCells_blk (w := { w with drawn := d }) g1 g3, ?_, h2⟩
        rw [h1]; exact g4
    · simp at h
  · rename_i s
    cases hb : Nat.beq m 1 with
    | false => simp [hb] at h
    | true =>
      simp [hb] at h; obtain ⟨rfl, rfl, rfl⟩ := h
      have := Nat.eq_of_beq_eq_true hb
      subst this
      cases hx
      refine ⟨by simp only [Builtin.lenOf, Sem.run_pure], s.data.toList.map fun b => .int .u8 b.toNat, ?_, ⟨rfl, fun i v v' h1 h2 => ?_⟩, by simp⟩
      · have e : s.extract 0 s.size = s := by simp
        have e2 : s.data.size = s.size := rfl
        intro d
        simp only [Builtin.firstCells, e, Sem.run_pure]
        congr 1
        apply Array.ext'; simp
      · rw [h1] at h2; simp at h2; subst h2
        simp at h1
        obtain ⟨b, _, rfl⟩ := h1
        exact .int _ _
  · simp at h
def appCore (h : Hp) (m len : Nat) (new : List Value) (sy : Bool) : Value → Option (Value × Hp)
  | .slice none 0 0 =>
    match sy with
    | true => bif Nat.ble len 16777216 then some (.slice (some ⟨h.next, 0, none⟩) len m, ⟨h.rows.put h.next (some ⟨new, false, .cells true⟩), h.next + 1⟩) else none
    | false =>
      match len with
      | 0 => some (.slice none 0 0, h)
      | _ => bif Nat.ble len 16777216 then some (.slice (some ⟨h.next, 0, none⟩) len m, ⟨h.rows.put h.next (some ⟨new, false, .cells false⟩), h.next + 1⟩) else none
  | .slice (some ⟨r, k, none⟩) sl e =>
    match h.rows.find r with
    | some ⟨cells, false, .cells s⟩ =>
      match sy || s with
      | true =>
        bif Nat.ble (sl + len) 16777216 && Nat.beq e m && Nat.blt r Tr.top && (Nat.blt 0 (sl + len) || Nat.beq cells.length 0) then
          match cut cells k (sl * m) with
          | some old => some (.slice (some ⟨h.next, 0, none⟩) (sl + len) m, ⟨(h.rows.put r none).put h.next (some ⟨old ++ new, false, .cells true⟩), h.next + 1⟩)
          | none => none
        else bif Nat.beq (sl + len) 0 then some (.slice (some ⟨r, k, none⟩) sl e, h) else none
      | false =>
        match len with
        | 0 => some (.slice (some ⟨r, k, none⟩) sl e, h)
        | _ =>
          bif Nat.ble (sl + len) 16777216 && Nat.beq e m && Nat.blt r Tr.top then
            match cut cells k (sl * m) with
            | some old => some (.slice (some ⟨h.next, 0, none⟩) (sl + len) m, ⟨(h.rows.put r none).put h.next (some ⟨old ++ new, false, .cells false⟩), h.next + 1⟩)
            | none => none
          else none
    | _ => (match len with | 0 => some (.slice (some ⟨r, k, none⟩) sl e, h) | _ => none)
  | _ => none
def aAppend (P : Program) (h : Hp) (c : Call) (ρ : Operand → Option Value) : Option (Value × Hp) :=
  match c.args.toList, c.argTypes.toList with
  | [s, x], [sT, xT] =>
    match P.underlying sT, P.underlying xT, ρ s, ρ x with
    | some (.slice elem), some xd, some sv, some xv =>
      match szOf P elem, zeroOf P elem, P.info? elem, xd with
      | some m, some z, some i, .slice _ | some m, some z, some i, .string =>
        match srcCells h.rows m xv with
        | some (len, new0, sy) =>
          match aFrz P h.rows (!sy && goesTo h.rows sv) (tsOf P elem len) new0 with
          | some (new, rows1) =>
            match aFrzRow P rows1 sy elem sv with
            | some rows2 => bif Nat.beq z.cells.toList.length m && !Nat.beq m 0 && Nat.ble i.bytes 1048576 && allOne new && Nat.blt h.next Tr.top then appCore ⟨rows2, h.next⟩ m len new sy sv else none
            | none => none
          | none => none
        | none => none
      | some m, some z, some i, .int _ =>
        match xv with
        | .int _ (.ofNat len) =>
          bif Nat.beq z.cells.toList.length m && !Nat.beq m 0 && Nat.ble i.bytes 1048576 && allOne (List.replicate len z.cells.toList).flatten && Nat.blt h.next Tr.top && Nat.ble len 16777216 then appCore h m len (List.replicate len z.cells.toList).flatten false sv else none
        | _ => none
      | _, _, _, _ => none
    | _, _, _, _ => none
  | _, _ => none
theorem zeroCells_size (z : Array Value) (k : Nat) : (Builtin.zeroCells z k).size = k * z.size := by simp [Builtin.zeroCells]
theorem run_append_new {sT xT elem ty : TypeId} {xd : TypeDesc} {x : Value} {base : Option Addr} {sLen sCap len m : Nat} {z : Value} {i : TypeInfo} {old new : List Value}
    (hd : P.underlying sT = some (.slice elem)) (hxd : P.underlying xT = some xd) (hx : ∀ k, xd ≠ .int k) (hm : szOf P elem = some m) (hz : zeroOf P elem = some z) (hi : P.info? elem = some i)
    (hl : (Builtin.lenOf x).run P w = .ok len w) (hnew : (Builtin.firstCells m len x).run P { w with drawn := w.drawn + 1 } = .ok new.toArray { w with drawn := w.drawn + 1 })
    (hold : (Builtin.firstCells m sLen (.slice base sLen sCap)).run P { w with drawn := w.drawn + 1 } = .ok old.toArray { w with drawn := w.drawn + 1 })
    (hroom : sCap < sLen + len) (hbytes : i.bytes ≤ 1048576) (hneed : sLen + len ≤ 16777216) :
    ∃ cap rest, sLen + len ≤ cap ∧ rest.size = (cap - (sLen + len)) * z.cells.size ∧
      (Builtin.append_ #[sT, xT] ty #[.slice base sLen sCap, x]).run P w = .ok (.slice (some ⟨w.heap.size, 0, none⟩) (sLen + len) cap) (World.alloc { w with drawn := w.drawn + 1 } (.cells (old.toArray ++ new.toArray ++ rest) elem)) := by
  have hq : (Question.appendCap (sLen + len) sCap elem).forced = false := rfl
  obtain ⟨hz1, _⟩ := zeroOf_spec (P := P) (μ := fun _ => none) (w := { w with drawn := w.drawn + 1 }) hz
  generalize hcap : (Question.appendCap (sLen + len) sCap elem).cut (w.tape w.drawn (Question.appendCap (sLen + len) sCap elem)) = cap
  refine ⟨cap, Builtin.zeroCells z.cells (cap - (sLen + len)), ?_, zeroCells_size _ _, ?_⟩
  · rw [← hcap]; simp [Question.cut]
  · have hzeros : (match xd with | .int _ => true | _ => false) = false := by cases xd <;> first | rfl | (exact absurd rfl (hx _))
    have hinfo : ∀ w : World, (typeInfo elem).run P w = .ok i w := by intro w; simp [typeInfo, program, Sem.run, hi]
    have hlim : ¬ Builtin.nextslicecap (sLen + len) sCap * i.bytes > 2 ^ 48 := by
      have h1 := next_le hroom
      have h2 : Builtin.nextslicecap (sLen + len) sCap * i.bytes ≤ 33555200 * 1048576 := Nat.mul_le_mul (by omega) hbytes
      have : (2:Nat) ^ 48 = 281474976710656 := by decide
      omega
    have hmax : ¬ (((sLen + len : Nat) : Int) > IntKind.i64.max ∧ (False ∨ i.bytes = 0)) := by
      intro h
      have e : IntKind.i64.max = 9223372036854775807 := by decide
      have := h.1
      rw [e] at this
      omega
    have hch : (choose (.appendCap (sLen + len) sCap elem)).run P w = .ok cap { w with drawn := w.drawn + 1 } := by
      simp only [choose, Sem.run, hq, Bool.false_eq_true, if_false, hcap]
    have ez : (Builtin.zeroCells z.cells (cap - (sLen + len))) = (Builtin.zeroCells z.cells (cap - (sLen + len))) := rfl
    unfold Builtin.append_
    simp only [List.getElem?_toArray, List.getElem?_cons_zero, List.getElem?_cons_succ, Sem.run_bind, run_underlying hd, run_underlying hxd, Result.andThen_ok, szOf_run hm, Sem.run_pure, hl, Bool.false_eq_true, if_false]
    rw [if_neg (by omega)]
    simp only [Sem.run_bind, hinfo, Result.andThen_ok]
    rw [if_neg hmax]
    simp only [Sem.run_bind, hinfo, Result.andThen_ok]
    rw [if_neg hlim]
    simp only [Sem.run_bind, hch, hinfo, run_askRoom, hold, hnew, hz1, Result.andThen_ok, Bool.not_false, if_true, run_row, Sem.run_pure]
theorem run_append_fits {sT xT elem ty : TypeId} {xd : TypeDesc} {x : Value} {a : Addr} {sLen sCap len m : Nat} {new : List Value} {w' : World}
    (hd : P.underlying sT = some (.slice elem)) (hxd : P.underlying xT = some xd) (hx : ∀ k, xd ≠ .int k) (hm : szOf P elem = some m)
    (hl : (Builtin.lenOf x).run P w = .ok len w) (hnew : (Builtin.firstCells m len x).run P w = .ok new.toArray w) (hroom : sLen + len ≤ sCap)
    (hst : (storeCells (a.add (sLen * m)) new).run P w = .ok () w') :
    (Builtin.append_ #[sT, xT] ty #[.slice (some a) sLen sCap, x]).run P w = .ok (.slice (some a) (sLen + len) sCap) w' := by
  have hzeros : (match xd with | .int _ => true | _ => false) = false := by cases xd <;> first | rfl | (exact absurd rfl (hx _))
  unfold Builtin.append_
  simp only [List.getElem?_toArray, List.getElem?_cons_zero, List.getElem?_cons_succ, Sem.run_bind, run_underlying hd, run_underlying hxd, Result.andThen_ok, szOf_run hm, Sem.run_pure, hl, Bool.false_eq_true, if_false]
  rw [if_pos hroom]
  simp only [Sem.run_bind, hnew, Bool.not_false, if_true, Result.andThen_ok, hst, Sem.run_pure]
theorem run_append_nil0 {sT xT elem ty : TypeId} {xd : TypeDesc} {x : Value} {m : Nat} {new : List Value}
    (hd : P.underlying sT = some (.slice elem)) (hxd : P.underlying xT = some xd) (hx : ∀ k, xd ≠ .int k) (hm : szOf P elem = some m)
    (hl : (Builtin.lenOf x).run P w = .ok 0 w) (hnew : (Builtin.firstCells m 0 x).run P w = .ok new.toArray w) :
    (Builtin.append_ #[sT, xT] ty #[.slice none 0 0, x]).run P w = .ok (.slice none 0 0) w := by
  have hzeros : (match xd with | .int _ => true | _ => false) = false := by cases xd <;> first | rfl | (exact absurd rfl (hx _))
  unfold Builtin.append_
  simp only [List.getElem?_toArray, List.getElem?_cons_zero, List.getElem?_cons_succ, Sem.run_bind, run_underlying hd, run_underlying hxd, Result.andThen_ok, szOf_run hm, Sem.run_pure, hl, Bool.false_eq_true, if_false]
  simp [hnew]
theorem ovr_tail {α : Type} (L : List α) (p a n : Nat) (vs : List α) (hn : n = a + vs.length) (h : p + a + vs.length ≤ L.length) : ((ovr L (p + a) vs).drop p).take n = (L.drop p).take a ++ vs := by
  subst hn
  have hl := ovr_length L (p + a) vs h
  apply List.ext_getElem?
  intro i
  rw [List.getElem?_take]
  by_cases hi : i < a + vs.length
  · rw [if_pos hi, List.getElem?_drop, ovr_get _ _ _ h]
    by_cases h2 : i < a
    · rw [if_neg (by omega), List.getElem?_append_left (by simp; omega), List.getElem?_take, if_pos h2, List.getElem?_drop]
    · rw [if_pos ⟨by omega, by omega⟩, List.getElem?_append_right (by simp; omega)]
      congr 1; simp; omega
  · rw [if_neg hi, List.getElem?_eq_none (by simp; omega)]
theorem vrs_len0 {l l' : List Value} (h : VRs μ l l') (h0 : l.length = 0) : l = [] ∧ l' = [] := by
  have := h.1
  exact ⟨List.eq_nil_of_length_eq_zero h0, List.eq_nil_of_length_eq_zero (by omega)⟩
structure AppSrc (P : Program) (w : World) (sT xT elem ty : TypeId) (x : Value) (m len : Nat) (z : Value) (i : TypeInfo) (new : List Value) : Prop where
  nil0 : len = 0 → (Builtin.append_ #[sT, xT] ty #[.slice none 0 0, x]).run P w = .ok (.slice none 0 0) w
  fits : ∀ (a : Addr) (sLen sCap : Nat) (w' : World), sLen + len ≤ sCap → (storeCells (a.add (sLen * m)) new).run P w = .ok () w' →
    (Builtin.append_ #[sT, xT] ty #[.slice (some a) sLen sCap, x]).run P w = .ok (.slice (some a) (sLen + len) sCap) w'
  grow : ∀ (base : Option Addr) (sLen sCap : Nat) (old : List Value), (Builtin.firstCells m sLen (.slice base sLen sCap)).run P { w with drawn := w.drawn + 1 } = .ok old.toArray { w with drawn := w.drawn + 1 } →
    sCap < sLen + len → sLen + len ≤ 16777216 →
    ∃ cap rest, sLen + len ≤ cap ∧ rest.size = (cap - (sLen + len)) * z.cells.size ∧
      (Builtin.append_ #[sT, xT] ty #[.slice base sLen sCap, x]).run P w = .ok (.slice (some ⟨w.heap.size, 0, none⟩) (sLen + len) cap) (World.alloc { w with drawn := w.drawn + 1 } (.cells (old.toArray ++ new.toArray ++ rest) elem))
theorem AppSrc.of_cells {sT xT elem ty : TypeId} {xd : TypeDesc} {x : Value} {m len : Nat} {z : Value} {i : TypeInfo} {new : List Value}
    (hd : P.underlying sT = some (.slice elem)) (hxd : P.underlying xT = some xd) (hx : ∀ k, xd ≠ .int k) (hm : szOf P elem = some m) (hz : zeroOf P elem = some z) (hi : P.info? elem = some i) (c3 : i.bytes ≤ 1048576)
    (hl : (Builtin.lenOf x).run P w = .ok len w) (hf : (Builtin.firstCells m len x).run P w = .ok new.toArray w)
    (hf2 : (Builtin.firstCells m len x).run P { w with drawn := w.drawn + 1 } = .ok new.toArray { w with drawn := w.drawn + 1 }) : AppSrc P w sT xT elem ty x m len z i new :=
  ⟨fun h0 => by subst h0; exact run_append_nil0 hd hxd hx hm hl hf,
   fun a sLen sCap w' hroom hst => run_append_fits hd hxd hx hm hl hf hroom hst,
   fun base sLen sCap old hold hroom hneed => run_append_new hd hxd hx hm hz hi hl hf2 hold hroom c3 hneed⟩
theorem AppSrc.of_zeros {sT xT elem ty : TypeId} {k k' : IntKind} {len m : Nat} {z : Value} {i : TypeInfo}
    (hd : P.underlying sT = some (.slice elem)) (hxd : P.underlying xT = some (.int k)) (hm : szOf P elem = some m) (hz : zeroOf P elem = some z) (hi : P.info? elem = some i) (c1 : z.cells.size = m) (c3 : i.bytes ≤ 1048576)
    (c4 : len ≤ 16777216) : AppSrc P w sT xT elem ty (.int k' len) m len z i (Builtin.zeroCells z.cells len).toList := by
  have hinfo : ∀ w : World, (typeInfo elem).run P w = .ok i w := by intro w; simp [typeInfo, program, Sem.run, hi]
  have hwrap : IntKind.i64.wrap (len : Int) = len := by
    unfold IntKind.wrap
    simp only [IntKind.signed, IntKind.bits]
    have e64 : (2 : Int) ^ 64 = 18446744073709551616 := by decide
    have e63 : (2 : Int) ^ (64 - 1) = 9223372036854775808 := by decide
    simp only [e64, e63]
    simp
    omega
  have hneg : ¬ ((len : Int) < 0) := by omega
  have hasInt : ∀ w : World, (asInt (.int k' len)).run P w = .ok (len : Int) w := by intro w; simp only [asInt, asIntOf, Sem.run_bind, Sem.run_pure, Result.andThen_ok]
  have hbig : ¬ ((len : Int) * i.bytes > 2 ^ 48) := by
    have : (len : Int) * i.bytes ≤ 16777216 * 1048576 := Int.mul_le_mul (by omega) (by omega) (by omega) (by omega)
    omega
  have hempty : ∀ w : World, len * m = 0 → (Builtin.zeroCells z.cells len).toList = [] := by
    intro _ h
    have := zeroCells_size z.cells len
    rw [c1, h] at this
    simpa using Array.eq_empty_of_size_eq_zero this
  have happ : ∀ w : World, ((if len * m = 0 then pure #[] else do pure (Builtin.zeroCells (← zeroValue elem).cells len) : Sem (Array Value))).run P w = .ok (Builtin.zeroCells z.cells len) w := by
    intro w
    obtain ⟨hz1, _⟩ := zeroOf_spec (P := P) (μ := fun _ => none) (w := w) hz
    by_cases h : len * m = 0
    · rw [if_pos h]
      have := hempty w h
      have e : Builtin.zeroCells z.cells len = #[] := by apply Array.ext'; simpa using this
      rw [e]; rfl
    · rw [if_neg h]; simp only [Sem.run_bind, hz1, Result.andThen_ok, Sem.run_pure]
  refine ⟨fun h0 => ?_, fun a sLen sCap w' hroom hst => ?_, fun base sLen sCap old hold hroom hneed => ?_⟩
  · unfold Builtin.append_
    simp only [List.getElem?_toArray, List.getElem?_cons_zero, List.getElem?_cons_succ, Sem.run_bind, run_underlying hd, run_underlying hxd, Result.andThen_ok, szOf_run hm, Sem.run_pure, if_true, hasInt, hwrap]
    rw [if_neg hneg]
    simp only [Sem.run_bind, hinfo, Result.andThen_ok]
    rw [if_neg hbig]
    simp only [Sem.run_bind, Sem.run_pure, Result.andThen_ok, Int.toNat_natCast]
    rw [if_pos (by omega)]
    simp only [Sem.run_bind, happ, Bool.not_true, Bool.false_eq_true, if_false, Result.andThen_ok, Sem.run_pure]
    subst h0; rfl
  · unfold Builtin.append_
    simp only [List.getElem?_toArray, List.getElem?_cons_zero, List.getElem?_cons_succ, Sem.run_bind, run_underlying hd, run_underlying hxd, Result.andThen_ok, szOf_run hm, Sem.run_pure, if_true, hasInt, hwrap]
    rw [if_neg hneg]
    simp only [Sem.run_bind, hinfo, Result.andThen_ok]
    rw [if_neg hbig]
    simp only [Sem.run_bind, Sem.run_pure, Result.andThen_ok, Int.toNat_natCast]
    rw [if_pos hroom]
    simp only [Sem.run_bind, happ, Bool.not_true, Bool.false_eq_true, if_false, Result.andThen_ok, hst, Sem.run_pure]
  · have hq : (Question.appendCap (sLen + len) sCap elem).forced = false := rfl
    obtain ⟨hz1, _⟩ := zeroOf_spec (P := P) (μ := fun _ => none) (w := { w with drawn := w.drawn + 1 }) hz
    generalize hcap : (Question.appendCap (sLen + len) sCap elem).cut (w.tape w.drawn (Question.appendCap (sLen + len) sCap elem)) = cap
    refine ⟨cap, Builtin.zeroCells z.cells (cap - (sLen + len)), ?_, zeroCells_size _ _, ?_⟩
    · rw [← hcap]; simp [Question.cut]
    · have hlim : ¬ Builtin.nextslicecap (sLen + len) sCap * i.bytes > 2 ^ 48 := by
        have h1 := next_le hroom
        have h2 : Builtin.nextslicecap (sLen + len) sCap * i.bytes ≤ 33555200 * 1048576 := Nat.mul_le_mul (by omega) c3
        have : (2:Nat) ^ 48 = 281474976710656 := by decide
        omega
      have hmax : ¬ (((sLen + len : Nat) : Int) > IntKind.i64.max ∧ (True ∨ i.bytes = 0)) := by
        intro h
        have e : IntKind.i64.max = 9223372036854775807 := by decide
        have := h.1
        rw [e] at this
        omega
      have hch : (choose (.appendCap (sLen + len) sCap elem)).run P w = .ok cap { w with drawn := w.drawn + 1 } := by
        simp only [choose, Sem.run, hq, Bool.false_eq_true, if_false, hcap]
      unfold Builtin.append_
      simp only [List.getElem?_toArray, List.getElem?_cons_zero, List.getElem?_cons_succ, Sem.run_bind, run_underlying hd, run_underlying hxd, Result.andThen_ok, szOf_run hm, Sem.run_pure, if_true, hasInt, hwrap]
      rw [if_neg hneg]
      simp only [Sem.run_bind, hinfo, Result.andThen_ok]
      rw [if_neg hbig]
      simp only [Sem.run_bind, Sem.run_pure, Result.andThen_ok, Int.toNat_natCast]
      rw [if_neg (by omega)]
      simp only [Sem.run_bind, hinfo, Result.andThen_ok]
      rw [if_neg hmax]
      simp only [Sem.run_bind, hinfo, Result.andThen_ok]
      rw [if_neg hlim]
      simp only [Sem.run_bind, hch, hinfo, run_askRoom, hold, happ, hz1, Result.andThen_ok, Bool.not_true, Bool.false_eq_true, if_false, run_row, Sem.run_pure]
theorem appCore_sound {h h' : Hp} (hw : WR B μ h.rows.find h.next w) {sT xT elem ty : TypeId} {m len : Nat} {z : Value} {i : TypeInfo} {sv sv' xv' v : Value} {new : List Value} {sy : Bool}
    {new' : List Value} (hsrc : AppSrc P w sT xT elem ty xv' m len z i new') (hv : VRs μ new new') (hlen : new.length = len * m)
    (hsv : VR μ sv sv') (c1 : z.cells.toList.length = m) (c2 : m ≠ 0) (c4 : allOne new = true) (c5 : h.next < Tr.top)
    (hb : appCore h m len new sy sv = some (v, h')) :
    ∃ μ' w' v', (Builtin.append_ #[sT, xT] ty #[sv', xv']).run P w = .ok v' w' ∧ VR μ' v v' ∧ Le μ μ' ∧ WR B μ' h'.rows.find h'.next w' ∧ Keep μ h.rows.find w μ' h'.rows.find w' := by
  have hv2 := hv
  have hq : μ h.next = none := hw.fresh _ (Nat.le_refl _) c5
  have hzs : z.cells.size = m := by simpa using c1
  have hz0 : ¬ B.hole h.next := fun h0 => by have := (hw.hole _ h0).2; omega
  have newNil : ∀ sy' : Bool, len ≠ 0 → len ≤ 16777216 → ∃ μ' w' v', (Builtin.append_ #[sT, xT] ty #[.slice none 0 0, xv']).run P w = .ok v' w' ∧ VR μ' (.slice (some ⟨h.next, 0, none⟩) len m) v' ∧ Le μ μ' ∧
      WR B μ' (setF h.rows.find h.next (some ⟨new, false, .cells sy'⟩)) (h.next + 1) w' ∧ Keep μ h.rows.find w μ' (setF h.rows.find h.next (some ⟨new, false, .cells sy'⟩)) w' := by
    intro sy' hlen0 c6
    obtain ⟨cap, rest, k1, k2, k3⟩ := hsrc.grow none 0 0 [] (by simp [Builtin.firstCells, Sem.run_pure]) (by omega) (by omega)
    have hsz : (([] : List Value).toArray ++ new'.toArray ++ rest : Array Value).size = cap * m := by
      simp [k2, hzs]
      rw [← hv2.1, hlen]
      rw [← Nat.add_mul]; congr 1; omega
    have hnz : new ≠ [] := by
      intro e; rw [e] at hlen; simp at hlen
      rcases Nat.eq_zero_or_pos len with h | h
      · exact hlen0 h
      · have := Nat.mul_pos h (Nat.pos_of_ne_zero c2); omega
    have hal := WR.alloc hw (q := h.next) (n' := h.next + 1) c5 hq hz0 (by omega) (by omega) (cs := new) (c := ([].toArray ++ new'.toArray ++ rest)) (sy := sy') elem (0, 0) (.inl rfl)
      (by simp; rw [hv2.1, List.take_append_of_le_length (by omega), List.take_of_length_le (by omega)]; exact hv2)
      (by rw [hsz, hlen]; exact Nat.mul_le_mul (by omega) (Nat.le_refl _)) (fun e => absurd e hnz) (World.alloc { w with drawn := w.drawn + 1 } (.cells ([].toArray ++ new'.toArray ++ rest) elem)) rfl rfl rfl rfl
    refine ⟨setM μ h.next (w.heap.size, 0, ([].toArray ++ new'.toArray ++ rest : Array Value).size), _, _, k3, ?_, le_setM hq _, hal.1, hal.2⟩
    have := VR.slice (μ := setM μ h.next (w.heap.size, 0, ([].toArray ++ new'.toArray ++ rest : Array Value).size)) h.next 0 len m w.heap.size 0 ([].toArray ++ new'.toArray ++ rest : Array Value).size cap (by simp [setM]) (by omega) (by rw [hsz]; omega)
    simpa using this
  have nothing : ∀ (sy' : Bool) (a : Option Addr) (F' : Nat → Option Row) , new = [] → (Builtin.append_ #[sT, xT] ty #[.slice a 0 0, xv']).run P w = .ok (.slice a 0 0) w → WR B μ F' h.next w → Keep μ h.rows.find w μ F' w →
      ∃ μ' w' v', (Builtin.append_ #[sT, xT] ty #[.slice a 0 0, xv']).run P w = .ok v' w' ∧ VR μ' (.slice (some ⟨h.next, 0, none⟩) 0 m) v' ∧ Le μ μ' ∧
      WR B μ' (setF F' h.next (some ⟨[], false, .cells sy'⟩)) (h.next + 1) w' ∧ Keep μ h.rows.find w μ' (setF F' h.next (some ⟨[], false, .cells sy'⟩)) w' := by
    intro sy' a F' _ hrun hw' hk
    obtain ⟨k1, k2⟩ := hw'.nothing c5 hq hz0 (show h.next < h.next + 1 by omega) (by omega) sy'
    exact ⟨_, w, _, hrun, .slice0 _ _ _ _, le_setM hq _, k1, hk.trans k2⟩
  have some' : ∀ (r k sl e : Nat) (cells old : List Value) (s sy' : Bool), sv = .slice (some ⟨r, k, none⟩) sl e → h.rows.find r = some ⟨cells, false, .cells s⟩ → cut cells k (sl * m) = some old → sl + len ≤ 16777216 → e = m → r < Tr.top →
      (0 < sl + len ∨ cells = []) →
      ∃ μ' w' v', (Builtin.append_ #[sT, xT] ty #[sv', xv']).run P w = .ok v' w' ∧ VR μ' (.slice (some ⟨h.next, 0, none⟩) (sl + len) m) v' ∧ Le μ μ' ∧
        WR B μ' (setF (setF h.rows.find r none) h.next (some ⟨old ++ new, false, .cells sy'⟩)) (h.next + 1) w' ∧ Keep μ h.rows.find w μ' (setF (setF h.rows.find r none) h.next (some ⟨old ++ new, false, .cells sy'⟩)) w' := by
    intro r k sl e cells old s sy' hsve hrow hcut d1 d2 d3 hvoid
    subst d2; subst hsve
    obtain ⟨o1, o2, o3⟩ := cut_spec hcut
    have hl1 : (old ++ new).length = (sl + len) * e := by rw [List.length_append, o2, hlen, ← Nat.add_mul]
    have hrn : r ≠ h.next ∨ cells = [] := by
      by_cases hc : cells = []
      · exact .inr hc
      · left; intro e0
        obtain ⟨br, or_, sr, cr, er, lor, hir, g1, _⟩ := hw.rows r _ hrow (void_cells (List.length_pos_iff.2 hc))
        rw [e0, hq] at g1; simp at g1
    have hrn : r ≠ h.next := by
      rcases hrn with h1 | h1
      · exact h1
      · intro e0; subst h1
        obtain ⟨b, o, s', h2, _⟩ := hw.vrow r _ hrow rfl
        rw [e0, hq] at h2; simp at h2
    have grow : ∀ (base : Option Addr) (sCap : Nat) (old' : List Value), VRs μ old old' → (Builtin.firstCells e sl (.slice base sl sCap)).run P { w with drawn := w.drawn + 1 } = .ok old'.toArray { w with drawn := w.drawn + 1 } → sCap < sl + len →
        ∃ μ' w' v', (Builtin.append_ #[sT, xT] ty #[.slice base sl sCap, xv']).run P w = .ok v' w' ∧ VR μ' (.slice (some ⟨h.next, 0, none⟩) (sl + len) e) v' ∧ Le μ μ' ∧
          WR B μ' (setF (setF h.rows.find r none) h.next (some ⟨old ++ new, false, .cells sy'⟩)) (h.next + 1) w' ∧ Keep μ h.rows.find w μ' (setF (setF h.rows.find r none) h.next (some ⟨old ++ new, false, .cells sy'⟩)) w' := by
      intro base sCap old' hov hof hroom
      obtain ⟨cap, rest, k1, k2, k3⟩ := hsrc.grow base sl sCap old' hof hroom d1
      have hov2 := hov.append hv2
      have hsz : (old'.toArray ++ new'.toArray ++ rest : Array Value).size = cap * e := by
        simp [k2, hzs]
        rw [← hv2.1, ← hov.1, hlen, o2, ← Nat.add_mul, ← Nat.add_mul]; congr 1; omega
      have hnz : old ++ new ≠ [] := by
        intro e0; rw [e0, List.length_nil] at hl1
        have := Nat.mul_pos (show 0 < sl + len by omega) (Nat.pos_of_ne_zero c2)
        omega
      have hal := WR.alloc hw (q := h.next) (n' := h.next + 1) c5 hq hz0 (by omega) (by omega) (cs := old ++ new) (c := (old'.toArray ++ new'.toArray ++ rest)) (sy := sy') elem (0, 0) (.inl rfl)
        (by
          have e0 : (old'.toArray ++ new'.toArray ++ rest).toList.take (old ++ new).length = old' ++ new' := by
            simp only [Array.toList_append]
            rw [hov2.1, List.take_append_of_le_length (Nat.le_refl _), List.take_of_length_le (Nat.le_refl _)]
          rw [e0]; exact hov2)
        (by rw [hsz, hl1]; exact Nat.mul_le_mul (by omega) (Nat.le_refl _)) (fun e => absurd e hnz) (World.alloc { w with drawn := w.drawn + 1 } (.cells (old'.toArray ++ new'.toArray ++ rest) elem)) rfl rfl rfl rfl
      have hcomm := setF_comm h.rows.find (fun e => hrn e.symm) (some (⟨old ++ new, false, .cells sy'⟩ : Row)) none
      refine ⟨setM μ h.next (w.heap.size, 0, (old'.toArray ++ new'.toArray ++ rest : Array Value).size), _, _, k3, ?_, le_setM hq _, ?_, ?_⟩
      · have := VR.slice (μ := setM μ h.next (w.heap.size, 0, (old'.toArray ++ new'.toArray ++ rest : Array Value).size)) h.next 0 (sl + len) e w.heap.size 0 (old'.toArray ++ new'.toArray ++ rest : Array Value).size cap (by simp [setM]) (by omega) (by rw [hsz]; omega)
        simpa using this
      · rw [← hcomm]; exact hal.1.kill r
      · rw [← hcomm]; exact hal.2.kill r
    have fits : 0 < cells.length → ∀ (b o s c : Nat), μ r = some (b, o, s) → o + k + c * e ≤ s → sl + len ≤ c → (0 < sl + len) →
        ∃ μ' w' v', (Builtin.append_ #[sT, xT] ty #[.slice (some ⟨b, o + k, none⟩) sl c, xv']).run P w = .ok v' w' ∧ VR μ' (.slice (some ⟨h.next, 0, none⟩) (sl + len) e) v' ∧ Le μ μ' ∧
          WR B μ' (setF (setF h.rows.find r none) h.next (some ⟨old ++ new, false, .cells sy'⟩)) (h.next + 1) w' ∧ Keep μ h.rows.find w μ' (setF (setF h.rows.find r none) h.next (some ⟨old ++ new, false, .cells sy'⟩)) w' := by
      intro hne b o s c hmm hc hroom hpos
      obtain ⟨br, or_, sr, cr, er, lor, hir, g1, g2, g3, g4, g5, g6, g7⟩ := hw.rows r _ hrow (void_cells hne)
      rw [g1] at hmm
      simp only [Option.some.injEq, Prod.mk.injEq] at hmm
      obtain ⟨rfl, rfl, rfl⟩ := hmm
      have hmul : (sl + len) * e ≤ c * e := Nat.mul_le_mul hroom (Nat.le_refl _)
      have hadd : (sl + len) * e = sl * e + len * e := Nat.add_mul _ _ _
      have hnl : new'.length = len * e := by rw [← hv.1]; exact hlen
      obtain ⟨w', hst, hblk, ho⟩ := run_storeCells_blk (P := P) br (or_ + k + sl * e) er (lor, hir) new' 0 cr w g2 (by omega) (hv.one c4) (by rw [g3]; exact (g6 rfl).2)
      have hrun := hsrc.fits ⟨br, or_ + k, none⟩ sl c w' hroom (by rw [add_none]; exact hst)
      have hle := le_setM hq (br, or_ + k, sr)
      simp only [Nat.add_zero] at hblk
      have hcl : cr.toList.length = sr := by simpa using g3
      have hnz : 0 < (old ++ new).length := by rw [hl1]; exact Nat.mul_pos hpos (Nat.pos_of_ne_zero c2)
      have hkey := WR.rewrite (q := h.next) (n' := h.next + 1) hw hrow (void_cells hne) rfl g1 (by omega) hle (by intro x hx hx2; unfold setM; rw [if_neg (by omega)]; exact hw.fresh x (by omega) hx2) (fun z1 hz1 => by unfold setM; rw [if_neg (fun e1 : z1 = h.next => hz0 (by rw [← e1]; exact hz1))]; exact (hw.hole z1 hz1).1) ho
        (row' := ⟨old ++ new, false, .cells sy'⟩) (o' := or_ + k)
        (by
          refine ⟨br, or_ + k, sr, _, er, lor, hir, by simp [setM], hblk, ?_, ?_, ?_, fun _ => g6 rfl, by simp⟩
          · rw [List.size_toArray, ovr_length _ _ _ (by omega)]; exact hcl
          · simp only [hl1]; omega
          · simp only [hl1]
            rw [ovr_tail _ _ _ _ _ (by omega) (by omega)]
            rcases o3 with o3 | o3
            · have hold : old = [] := List.eq_nil_of_length_eq_zero (by omega)
              rw [hold, o3]
              simpa using hv.le hle
            · obtain ⟨c0, e0, fr, q1, q2, q3, q4⟩ := row_cells (w := w) (cells := cells) hw hrow hne (k := k) (m := sl * e) (by omega) g1
              rw [g2] at q1
              simp at q1
              obtain ⟨rfl, _, _⟩ := q1
              rw [o1]
              exact (q4.append hv).le hle)
        rfl (fun hvd => by rw [void_cells hnz] at hvd; simp at hvd) (by simp [setM]) (fun x _ h2 y hy _ => by unfold setM at hy; rw [if_neg h2] at hy; exact hy) (setM_g c5 _)
      refine ⟨setM μ h.next (br, or_ + k, sr), w', _, hrun, ?_, hle, hkey.1, hkey.2⟩
      have := VR.slice (μ := setM μ h.next (br, or_ + k, sr)) h.next 0 (sl + len) e br (or_ + k) sr c (by simp [setM]) hroom (by omega)
      simpa using this
    have noroom : cells = [] → ∀ (b o s c : Nat), μ r = some (b, o, s) → o + k + c * e ≤ s → c = 0 := by
      intro hc b o s c hmm hcc
      subst hc
      obtain ⟨b2, o2, s2, h2, h3⟩ := hw.vrow r _ hrow rfl
      rw [hmm] at h2
      simp only [Option.some.injEq, Prod.mk.injEq] at h2
      obtain ⟨rfl, rfl, rfl⟩ := h2
      have := h3 rfl
      subst this
      rcases Nat.eq_zero_or_pos c with h | h
      · exact h
      · have := Nat.mul_pos h (Nat.pos_of_ne_zero c2); omega
    have kz : WR B μ (setF h.rows.find r none) h.next w ∧ Keep μ h.rows.find w μ (setF h.rows.find r none) w := ⟨hw.kill r, (Keep.refl _ _ _).kill r⟩
    by_cases hsl : sl = 0
    ·
      subst hsl
      have hold : old = [] := List.eq_nil_of_length_eq_zero (by simpa using o2)
      subst hold
      by_cases hl0 : len = 0
      · subst hl0
        have hc : cells = [] := by rcases hvoid with h | h; omega; exact h
        have hnew : new = [] := List.eq_nil_of_length_eq_zero (by simpa using hlen)
        subst hnew
        have hnew' : new' = [] := List.eq_nil_of_length_eq_zero (by have := hv.1; simpa using this.symm)
        subst hnew'
        have ex : ∃ a, sv' = .slice a 0 0 := by
          cases hsv with
          | slice0 _ _ _ a => exact ⟨_, rfl⟩
          | slice _ _ _ _ b o s c hmm hn hcc => have := noroom hc b o s c hmm hcc; subst this; exact ⟨_, rfl⟩
        obtain ⟨a, rfl⟩ := ex
        refine nothing sy' a _ rfl ?_ kz.1 kz.2
        cases a with
        | none => exact hsrc.nil0 rfl
        | some a => exact hsrc.fits a 0 0 w (by omega) rfl
      · cases hsv with
        | slice0 _ _ _ a =>
          refine grow a 0 [] .nil ?_ (by omega)
          cases a with
          | none => simp [Builtin.firstCells]
          | some a => simp only [Builtin.firstCells, loadCells, Nat.zero_mul]; rfl
        | slice _ _ _ _ b o s c hmm hn hc =>
          by_cases hroom : 0 + len ≤ c
          · have hne : 0 < cells.length := by
              by_cases hcc : cells = []
              · have := noroom hcc b o s c hmm hc; omega
              · exact List.length_pos_iff.2 hcc
            exact fits hne b o s c hmm hc hroom (by omega)
          · exact grow _ c [] .nil (by simp only [Builtin.firstCells, loadCells, Nat.zero_mul]; rfl) (by omega)
    · have hpos : 0 < sl := by omega
      have hmp := Nat.mul_pos hpos (Nat.pos_of_ne_zero c2)
      obtain ⟨b, o, s, c, rfl, hmm, hn, hc⟩ := slice_ptr hsv hpos
      have hne : 0 < cells.length := by omega
      by_cases hroom : sl + len ≤ c
      · exact fits hne b o s c hmm hc hroom (by omega)
      · obtain ⟨c0, e0, fr, q1, q2, q3, q4⟩ := row_cells (cells := cells) (hw.drew (w.drawn + 1)) hrow hne (k := k) (m := sl * e) (by omega) hmm
        refine grow _ c _ ?_ (by simp only [Builtin.firstCells]; exact run_loadCells_blk q1 q3) (by omega)
        rw [o1]; exact q4
  have same : ∀ r k sl e, sv = .slice (some ⟨r, k, none⟩) sl e → len = 0 → v = sv → h' = h → ∃ μ' w' v', (Builtin.append_ #[sT, xT] ty #[sv', xv']).run P w = .ok v' w' ∧ VR μ' v v' ∧ Le μ μ' ∧ WR B μ' h'.rows.find h'.next w' ∧ Keep μ h.rows.find w μ' h'.rows.find w' := by
    intro r k sl e hsve h0 h1 h2
    subst h0; subst h1; subst h2; subst hsve
    obtain ⟨_, rfl⟩ := vrs_len0 hv (by omega)
    cases hsv with
    | slice _ _ _ _ b o s c hmm hn hc => exact ⟨μ, w, _, hsrc.fits _ sl c w (by omega) rfl, .slice _ _ _ _ b o s c hmm hn hc, Le.refl _, hw, Keep.refl _ _ _⟩
    | slice0 _ _ _ a =>
      cases a with
      | none => exact ⟨μ, w, _, hsrc.nil0 rfl, .slice0 _ _ _ _, Le.refl _, hw, Keep.refl _ _ _⟩
      | some a => exact ⟨μ, w, _, hsrc.fits a 0 0 w (by omega) rfl, .slice0 _ _ _ _, Le.refl _, hw, Keep.refl _ _ _⟩
  unfold appCore at hb
  split at hb
  · cases hsv
    split at hb
    · cases hneed : Nat.ble len 16777216 with
      | false => simp [hneed] at hb
      | true =>
        have c6 := Nat.le_of_ble_eq_true hneed
        simp only [hneed, cond_true, Option.some.injEq, Prod.mk.injEq] at hb
        obtain ⟨rfl, rfl⟩ := hb
        simp only
        rw [find_put_fun _ _ _ c5]
        by_cases hl0 : len = 0
        · subst hl0
          have hnew : new = [] := List.eq_nil_of_length_eq_zero (by simpa using hlen)
          subst hnew
          exact nothing true none _ rfl (hsrc.nil0 rfl) hw (Keep.refl _ _ _)
        · exact newNil true hl0 c6
    · split at hb
      · simp at hb; obtain ⟨rfl, rfl⟩ := hb
        obtain ⟨_, rfl⟩ := vrs_len0 hv (by omega)
        exact ⟨μ, w, _, hsrc.nil0 rfl, .snil, Le.refl _, hw, Keep.refl _ _ _⟩
      · rename_i hlen0
        cases hneed : Nat.ble len 16777216 with
        | false => simp [hneed] at hb
        | true =>
          have c6 := Nat.le_of_ble_eq_true hneed
          simp only [hneed, cond_true, Option.some.injEq, Prod.mk.injEq] at hb
          obtain ⟨rfl, rfl⟩ := hb
          simp only
          rw [find_put_fun _ _ _ c5]
          exact newNil false (fun e => hlen0 e) c6
  · rename_i r k sl e
    split at hb
    · rename_i cells s hrow
      split at hb
      · cases hcond2 : (Nat.ble (sl + len) 16777216 && Nat.beq e m && Nat.blt r Tr.top && (Nat.blt 0 (sl + len) || Nat.beq cells.length 0)) with
        | false =>
          simp only [hcond2, cond_false] at hb
          cases hz : Nat.beq (sl + len) 0 with
          | false => simp [hz] at hb
          | true =>
            simp only [hz, cond_true, Option.some.injEq, Prod.mk.injEq] at hb
            have hz := Nat.eq_of_beq_eq_true hz
            obtain rfl : len = 0 := by omega
            obtain ⟨rfl, rfl⟩ := hb
            exact same r k sl e rfl rfl rfl rfl
        | true =>
          simp only [hcond2, cond_true] at hb
          simp only [Bool.and_eq_true, Bool.or_eq_true] at hcond2
          split at hb
          · rename_i old hcut
            simp only [Option.some.injEq, Prod.mk.injEq] at hb
            obtain ⟨rfl, rfl⟩ := hb
            have d3 : r < Tr.top := Nat.le_of_ble_eq_true hcond2.1.2
            simp only
            rw [find_put_fun _ _ _ c5, find_put_fun _ _ _ d3]
            exact some' r k sl e cells old s true rfl hrow hcut (Nat.le_of_ble_eq_true hcond2.1.1.1) (Nat.eq_of_beq_eq_true hcond2.1.1.2) d3
              (by rcases hcond2.2 with h | h; exact .inl (Nat.le_of_ble_eq_true h); exact .inr (List.eq_nil_of_length_eq_zero (Nat.eq_of_beq_eq_true h)))
          · simp at hb
      · split at hb
        · simp only [Option.some.injEq, Prod.mk.injEq] at hb
          obtain ⟨rfl, rfl⟩ := hb
          exact same r k sl e rfl rfl rfl rfl
        · rename_i hlen0
          cases hcond2 : (Nat.ble (sl + len) 16777216 && Nat.beq e m && Nat.blt r Tr.top) with
          | false => simp only [hcond2, cond_false] at hb; simp at hb
          | true =>
            simp only [hcond2, cond_true] at hb
            simp only [Bool.and_eq_true] at hcond2
            split at hb
            · rename_i old hcut
              simp only [Option.some.injEq, Prod.mk.injEq] at hb
              obtain ⟨rfl, rfl⟩ := hb
              have d3 : r < Tr.top := Nat.le_of_ble_eq_true hcond2.2
              have hlen0 : len ≠ 0 := fun e => hlen0 e
              simp only
              rw [find_put_fun _ _ _ c5, find_put_fun _ _ _ d3]
              exact some' r k sl e cells old s false rfl hrow hcut (Nat.le_of_ble_eq_true hcond2.1.1) (Nat.eq_of_beq_eq_true hcond2.1.2) d3 (.inl (by omega))
            · simp at hb
    · split at hb
      · simp only [Option.some.injEq, Prod.mk.injEq] at hb
        obtain ⟨rfl, rfl⟩ := hb
        exact same r k sl e rfl rfl rfl rfl
      · simp at hb
  · simp at hb
theorem aAppend_sound {h h' : Hp} (hw : WR B μ h.rows.find h.next w) {c : Call} {ρ : Operand → Option Value} {ρ' : Operand → Value} (hρ : ∀ x v, ρ x = some v → VR μ v (ρ' x)) {v : Value}
    (ha : aAppend P h c ρ = some (v, h')) (ty : TypeId) :
    ∃ μ' w' v', (Builtin.append_ c.argTypes ty (c.args.map ρ')).run P w = .ok v' w' ∧ VR μ' v v' ∧ Le μ μ' ∧ WR B μ' h'.rows.find h'.next w' ∧ Keep μ h.rows.find w μ' h'.rows.find w' := by
  unfold aAppend at ha
  split at ha
  · rename_i s x sT xT e1 e2
    have ea : c.args.map ρ' = #[ρ' s, ρ' x] := by
      have : c.args = #[s, x] := by apply Array.ext'; simpa using e1
      rw [this]; simp
    have et : c.argTypes = #[sT, xT] := by apply Array.ext'; simpa using e2
    rw [ea, et]
    split at ha
    · rename_i elem xd sv xv hd hxd hs hx
      have fin : ∀ (m : Nat) (z : Value) (i : TypeInfo), szOf P elem = some m → zeroOf P elem = some z → P.info? elem = some i → (∀ k, xd ≠ .int k) →
          (match srcCells h.rows m xv with
            | some (len, new0, sy) =>
              match aFrz P h.rows (!sy && goesTo h.rows sv) (tsOf P elem len) new0 with
              | some (new, rows1) =>
                match aFrzRow P rows1 sy elem sv with
                | some rows2 => bif Nat.beq z.cells.toList.length m && !Nat.beq m 0 && Nat.ble i.bytes 1048576 && allOne new && Nat.blt h.next Tr.top then appCore ⟨rows2, h.next⟩ m len new sy sv else none
                | none => none
              | none => none
            | none => none) = some (v, h') →
          ∃ μ' w' v', (Builtin.append_ #[sT, xT] ty #[ρ' s, ρ' x]).run P w = .ok v' w' ∧ VR μ' v v' ∧ Le μ μ' ∧ WR B μ' h'.rows.find h'.next w' ∧ Keep μ h.rows.find w μ' h'.rows.find w' := by
        intro m z i hm hz hi hxn hb
        split at hb
        · rename_i len new0 sy hsc
          split at hb
          · rename_i new rows1 hfz
            split at hb
            · rename_i rows2 hfr
              cases hcond : (Nat.beq z.cells.toList.length m && !Nat.beq m 0 && Nat.ble i.bytes 1048576 && allOne new && Nat.blt h.next Tr.top) with
              | false => simp only [hcond, cond_false] at hb; simp at hb
              | true =>
                simp only [hcond, cond_true] at hb
                simp only [Bool.and_eq_true] at hcond
                have hnt : h.next < Tr.top := Nat.le_of_ble_eq_true hcond.2
                have hht : ∀ z, B.hole z → z < Tr.top := fun z hz => by have := (hw.hole z hz).2; omega
                obtain ⟨hl, new', hf, hv, hlen⟩ := srcCells_sound (P := P) hw (hρ x xv hx) hsc
                obtain ⟨μ1, f1, f2, f3, f4, f5⟩ := aFrz_sound hw hht hv hfz
                obtain ⟨μ2, g1, g2, g3⟩ := aFrzRow_sound f2 hht hfr
                obtain ⟨μ', w', v', k1, k2, k3, k4, k5⟩ := appCore_sound (h := ⟨rows2, h.next⟩) g2 (AppSrc.of_cells hd hxd hxn hm hz hi (Nat.le_of_ble_eq_true hcond.1.1.2) hl (hf w.drawn) (hf _)) (f4.le g1) (f5.trans hlen) ((hρ s sv hs).le (f1.trans g1)) (Nat.eq_of_beq_eq_true hcond.1.1.1.1) (by intro e; subst e; simp at hcond) hcond.1.2
                  hnt hb
                exact ⟨μ', w', v', k1, k2, (f1.trans g1).trans k3, k4, (f3.trans g3).trans k5⟩
            · simp at hb
          · simp at hb
        · simp at hb
      split at ha
      · rename_i m z i tt hm hz hi; exact fin m z i hm hz hi (by intro k; simp) ha
      · rename_i m z i hm hz hi; exact fin m z i hm hz hi (by intro k; simp) ha
      · rename_i m z i k hm hz hi
        have hxv := hρ x xv hx
        generalize ρ' x = xv' at hxv ⊢
        split at ha
        · rename_i k' len
          cases hxv
          cases hcond : (Nat.beq z.cells.toList.length m && !Nat.beq m 0 && Nat.ble i.bytes 1048576 && allOne (List.replicate len z.cells.toList).flatten && Nat.blt h.next Tr.top && Nat.ble len 16777216) with
          | false => simp only [hcond, cond_false] at ha; simp at ha
          | true =>
            simp only [hcond, cond_true] at ha
            simp only [Bool.and_eq_true] at hcond
            have c1 := Nat.eq_of_beq_eq_true hcond.1.1.1.1.1
            have c2 : m ≠ 0 := by intro e; subst e; simp at hcond
            have c1' : z.cells.size = m := by simpa using c1
            have hz2 := zeroOf_spec (P := P) (μ := μ) (w := w) hz
            refine appCore_sound hw (AppSrc.of_zeros (k' := k') hd hxd hm hz hi c1' (Nat.le_of_ble_eq_true hcond.1.1.1.2) (Nat.le_of_ble_eq_true hcond.2)) ?_ ?_ (hρ s sv hs) c1 c2 hcond.1.1.2 (Nat.le_of_ble_eq_true hcond.1.2) ha
            · have e1 : (Builtin.zeroCells z.cells len).toList = (List.replicate len z.cells.toList).flatten := by
                exact rep_cells z.cells z.cells.size rfl (by rw [c1']; exact c2) len
              rw [e1]; exact rep_vrs hz2.2.cells len
            · simp [c1']
        · simp at ha
      · simp at ha
    · simp at ha
  · simp at ha
end
end
end Go.Ev
namespace Go.Ev
noncomputable section
open Go.RowKit
section
variable {P : Program} {B : Base} {n : Nat} {μ : Mu} {F : Nat → Option Row} {w : World}
theorem WR.allocObj (h : WR B μ F n w) {q n' : Nat} (hqt : q < Tr.top) (hq : μ q = none) (hz : ¬ B.hole q) (hn : q < n') (hn' : n ≤ n') {x : Obj} {row : Row} (hro : row.ro = false) (hnv : row.void = false)
    (hrow : ∀ w' : World, w'.heap[w.heap.size]? = some x → RowIn B (setM μ q (w.heap.size, 0, 1)) w' q row) :
    WR B (setM μ q (w.heap.size, 0, 1)) (setF F q (some row)) n' { w with heap := w.heap.push x } ∧
    Keep μ F w (setM μ q (w.heap.size, 0, 1)) (setF F q (some row)) { w with heap := w.heap.push x } := by
  have _ := hro
  have hle := le_setM hq (w.heap.size, 0, 1)
  have hold : ∀ k, k < w.heap.size → ({ w with heap := w.heap.push x } : World).heap[k]? = w.heap[k]? := by
    intro k hk; rw [Array.getElem?_push, if_neg (by omega)]
  have hown : ∀ b, Owns (setM μ q (w.heap.size, 0, 1)) (setF F q (some row)) b → Owns μ F b ∨ w.heap.size ≤ b := by
    intro b hb
    obtain ⟨r, row', o, s, hr, hvd, hro', hm⟩ := hb
    by_cases e1 : r = q
    · subst e1; simp [setM] at hm; exact .inr (by omega)
    · unfold setF at hr; unfold setM at hm
      rw [if_neg e1] at hr hm
      exact .inl ⟨r, row', o, s, hr, hvd, hro', hm⟩
  refine ⟨⟨?_, ?_, ?_, ?_, ?_, ?_, h.gho_kept hle (setM_g hqt _) (fun b hb _ => hold b hb) hown, h.gfr_kept (setM_g hqt _), h.tab.kept (fun b hb _ => hold b hb)⟩, rfl, rfl, rfl, ?_, fun b hb _ => hold b hb, hown, fun z i b o s hg => .inl ((setM_g hqt _ z i).symm.trans hg)⟩
  · intro b hb; rw [Array.size_push] at hb; exact h.base b (by omega)
  · intro z hz'
    have h0 := h.hole z hz'
    have : z ≠ q := fun e => hz (e ▸ hz')
    exact ⟨by unfold setM; rw [if_neg this]; exact h0.1, by omega⟩
  · intro r hr hr2
    unfold setM
    rw [if_neg (by omega)]
    exact h.fresh r (by omega) hr2
  · intro r row' hr hvd
    unfold setF at hr
    split at hr
    · rename_i e0; subst e0
      simp at hr; subst hr
      exact hrow _ (by simp)
    · refine (h.rows r row' hr hvd).kept hle fun b o s hm => hold b ((h.rows r row' hr hvd).lt hm)
  · intro r row' hr hvd
    unfold setF at hr
    split at hr
    · simp at hr; subst hr; rw [hnv] at hvd; simp at hvd
    · obtain ⟨b, o, s, h4, h5⟩ := h.vrow r row' hr hvd
      exact ⟨b, o, s, hle _ _ h4, h5⟩
  · intro r1 r2 x' y b o s o' s' hx hy hxv hyv hxr hyr hm1 hm2
    have key : ∀ r row' b o s, setF F q (some row) r = some row' → setM μ q (w.heap.size, 0, 1) r = some (b, o, s) → row'.void = false → r ≠ q → F r = some row' ∧ μ r = some (b, o, s) ∧ b < w.heap.size := by
      intro r row' b o s hr hm hvd hne
      unfold setF at hr; unfold setM at hm
      rw [if_neg hne] at hr hm
      exact ⟨hr, hm, (h.rows r row' hr hvd).lt hm⟩
    by_cases e1 : r1 = q
    · by_cases e2 : r2 = q
      · omega
      · obtain ⟨_, _, hlt⟩ := key r2 y b o' s' hy hm2 hyv e2
        subst e1
        simp [setM] at hm1
        omega
    · obtain ⟨a1, a2, hlt⟩ := key r1 x' b o s hx hm1 hxv e1
      by_cases e2 : r2 = q
      · subst e2
        simp [setM] at hm2
        omega
      · obtain ⟨b1, b2, _⟩ := key r2 y b o' s' hy hm2 hyv e2
        exact h.apart r1 r2 x' y b o s o' s' a1 b1 hxv hyv hxr hyr a2 b2
  · rw [Array.size_push]; omega
theorem oth_set (w : World) (b : Nat) (x : Obj) : Oth b w { w with heap := w.heap.setIfInBounds b x } :=
  ⟨rfl, rfl, rfl, by simp, fun k hk => by simp only []; rw [Array.getElem?_setIfInBounds_ne (fun e => hk e.symm)]⟩
theorem get_set {w : World} {b : Nat} {x y : Obj} (h : w.heap[b]? = some y) : (w.heap.setIfInBounds b x)[b]? = some x := by
  have := (Array.getElem?_eq_some_iff.1 h).1
  simp [this]
theorem WR.setRow (h : WR B μ F n w) {r b : Nat} {row row' : Row} {y x : Obj} (hr : F r = some row) (hvd : row.void = false) (hro : row.ro = false) (hm : μ r = some (b, 0, 1)) (hb : w.heap[b]? = some y) (hro' : row'.ro = false) (hvd' : row'.void = false)
    (hrow : ∀ w' : World, w'.heap[b]? = some x → RowIn B μ w' r row') :
    WR B μ (setF F r (some row')) n { w with heap := w.heap.setIfInBounds b x } ∧ Keep μ F w μ (setF F r (some row')) { w with heap := w.heap.setIfInBounds b x } := by
  have key := WR.rewrite (q := r) (n' := n) h hr hvd hro hm (Nat.le_refl _) (Le.refl μ) h.fresh (fun z hz => (h.hole z hz).1) (oth_set w b x) (row' := row') (o' := 0)
    (hrow _ (get_set hb)) hro' (fun h0 => by rw [hvd'] at h0; simp at h0) hm (fun x _ _ y hy _ => hy) (fun _ _ => rfl)
  rwa [setF_setF] at key
theorem run_newObj (x : Obj) : (newObj x).run P w = .ok w.heap.size { w with heap := w.heap.push x } := rfl
theorem run_setObj {b : Nat} {x y : Obj} (h : w.heap[b]? = some y) (hx : ∀ c e fr, y ≠ .cells c e fr) : (setObj b x).run P w = .ok () { w with heap := w.heap.setIfInBounds b x } := by
  simp only [setObj, Sem.run, h]
end
section
variable {P : Program} {B : Base} {n : Nat} {μ : Mu} {F : Nat → Option Row} {w : World}
def aRange (P : Program) (h : Hp) (t : TypeId) : Value → Option (Value × Hp)
  | .string s =>
    match P.underlying t with
    | some .string => bif Nat.blt h.next Tr.top then some (.pointer (some ⟨h.next, 0, none⟩), ⟨h.rows.put h.next (some ⟨[.string s, .int .i64 (.ofNat 0)], false, .iter⟩), h.next + 1⟩) else none
    | _ => none
  | _ => none
theorem aRange_sound {h h' : Hp} (hw : WR B μ h.rows.find h.next w) {t : TypeId} {x x' v : Value} (hx : VR μ x x') (hm : aRange P h t x = some (v, h')) :
    ∃ μ' w' v', (Instr.range t x').run P w = .ok v' w' ∧ VR μ' v v' ∧ Le μ μ' ∧ WR B μ' h'.rows.find h'.next w' ∧ Keep μ h.rows.find w μ' h'.rows.find w' := by
  unfold aRange at hm
  split at hm
  · rename_i s
    cases hx
    split at hm
    · rename_i hd
      cases hcond : Nat.blt h.next Tr.top with
      | false => simp [hcond] at hm
      | true =>
        simp only [hcond, cond_true, Option.some.injEq, Prod.mk.injEq] at hm
        obtain ⟨rfl, rfl⟩ := hm
        have c6 : h.next < Tr.top := Nat.le_of_ble_eq_true hcond
        have hq : μ h.next = none := hw.fresh _ (Nat.le_refl _) c6
        have hal := WR.allocObj hw (q := h.next) (n' := h.next + 1) (x := .stringIter s 0) (row := ⟨[.string s, .int .i64 (.ofNat 0)], false, .iter⟩) c6 hq (fun h0 => by have := (hw.hole _ h0).2; omega) (by omega) (by omega) rfl rfl
          (fun w' hw' => ⟨w.heap.size, s, 0, by simp [setM], hw', rfl, rfl, hw.base _ (Nat.le_refl _)⟩)
        refine ⟨setM μ h.next (w.heap.size, 0, 1), _, .pointer (some ⟨w.heap.size, 0, none⟩), ?_, VR.ptr h.next 0 w.heap.size 0 1 (by simp [setM]), le_setM hq _, by rw [find_put_fun _ _ _ c6]; exact hal.1, by rw [find_put_fun _ _ _ c6]; exact hal.2⟩
        simp only [Instr.range, Sem.run_bind, run_underlying hd, Result.andThen_ok, Sem.run_pure, run_newObj]
    · simp at hm
  · simp at hm
def aNext (h : Hp) (it : Value) (str : Bool) : Option (Value × Hp) :=
  match it, str with
  | .pointer (some ⟨r, 0, none⟩), true =>
    match h.rows.find r with
    | some ⟨[.string s, .int .i64 (.ofNat p)], false, .iter⟩ =>
      bif Nat.blt r Tr.top then
        bif Nat.blt p s.size then
          some (.tuple #[.bool true, .int .i64 (.ofNat p), .int .i32 (.ofNat (Utf8.decode s p).1)], ⟨h.rows.put r (some ⟨[.string s, .int .i64 (.ofNat (p + (Utf8.decode s p).2))], false, .iter⟩), h.next⟩)
        else some (.tuple #[.bool false], h)
      else none
    | _ => none
  | _, _ => none
theorem aNext_sound {h h' : Hp} (hw : WR B μ h.rows.find h.next w) {x x' v : Value} {str : Bool} {ty : TypeId} (hx : VR μ x x') (hm : aNext h x str = some (v, h')) :
    ∃ μ' w' v', (Instr.next x' str ty).run P w = .ok v' w' ∧ VR μ' v v' ∧ Le μ μ' ∧ WR B μ' h'.rows.find h'.next w' ∧ Keep μ h.rows.find w μ' h'.rows.find w' := by
  unfold aNext at hm
  split at hm
  · rename_i r
    split at hm
    · rename_i s p hr
      cases hcond : Nat.blt r Tr.top with
      | false => simp [hcond] at hm
      | true =>
        simp only [hcond, cond_true] at hm
        have c6 : r < Tr.top := Nat.le_of_ble_eq_true hcond
        obtain ⟨b, s', p', g1, g2, g3, g4, g5⟩ := hw.rows r _ hr rfl
        simp only [List.cons.injEq, Value.string.injEq, Value.int.injEq, Int.ofNat.injEq, true_and, and_true] at g3
        obtain ⟨rfl, rfl⟩ := g3
        cases hx with
        | ptr _ _ b' o' s1 hmu =>
          rw [g1] at hmu
          simp only [Option.some.injEq, Prod.mk.injEq] at hmu
          obtain ⟨rfl, rfl, rfl⟩ := hmu
          have hget := run_getObj (P := P) g2 (by intro _ _ _ h; cases h)
          cases hlt : Nat.blt p s.size with
          | false =>
            simp only [hlt, cond_false, Option.some.injEq, Prod.mk.injEq] at hm
            obtain ⟨rfl, rfl⟩ := hm
            have : ¬ p < s.size := by
              intro h
              have := Nat.ble_eq_true_of_le h
              unfold Nat.blt at hlt; rw [this] at hlt; simp at hlt
            refine ⟨μ, w, .tuple #[.bool false], ?_, (VRs.cons (.bool _) VRs.nil).tuple, Le.refl _, hw, Keep.refl _ _ _⟩
            simp only [Instr.next, Sem.run_bind, Nat.add_zero, hget, Result.andThen_ok]
            rw [if_neg this]; rfl
          | true =>
            simp only [hlt, cond_true, Option.some.injEq, Prod.mk.injEq] at hm
            obtain ⟨rfl, rfl⟩ := hm
            have hp : p < s.size := Nat.le_of_ble_eq_true hlt
            have key := WR.setRow (row' := ⟨[.string s, .int .i64 (.ofNat (p + (Utf8.decode s p).2))], false, .iter⟩) (x := .stringIter s (p + (Utf8.decode s p).2)) hw hr rfl rfl g1 g2 rfl rfl
              (fun w' hw' => ⟨b, s, _, g1, hw', rfl, rfl, g5⟩)
            refine ⟨μ, _, .tuple #[.bool true, .int .i64 (.ofNat p), .int .i32 (.ofNat (Utf8.decode s p).1)], ?_, vr_tuple3 (.bool _) (.int _ _) (.int _ _), Le.refl _, by rw [find_put_fun _ _ _ c6]; exact key.1, by rw [find_put_fun _ _ _ c6]; exact key.2⟩
            simp only [Instr.next, Sem.run_bind, Nat.add_zero, hget, Result.andThen_ok]
            rw [if_pos hp]
            simp only [Sem.run_bind, run_setObj (P := P) g2 (by intro _ _ _ h; cases h), Result.andThen_ok, Sem.run_pure]
            rfl
    · simp at hm
  · simp at hm
end
end
end Go.Ev
namespace Go.Ev
noncomputable section
open Go.RowKit
section
variable {P : Program} {B : Base} {n : Nat} {μ : Mu} {F : Nat → Option Row} {w : World}
def aMakeMap (h : Hp) : Option (Value × Hp) :=
  bif Nat.blt h.next Tr.top then some (.map (some h.next), ⟨h.rows.put h.next (some ⟨[], false, .map false⟩), h.next + 1⟩) else none
theorem aMakeMap_sound {h h' : Hp} (hw : WR B μ h.rows.find h.next w) {t : TypeId} {v : Value} (hm : aMakeMap h = some (v, h')) :
    ∃ μ' w' v', (Instr.makeMap t none).run P w = .ok v' w' ∧ VR μ' v v' ∧ Le μ μ' ∧ WR B μ' h'.rows.find h'.next w' ∧ Keep μ h.rows.find w μ' h'.rows.find w' := by
  unfold aMakeMap at hm
  cases hcond : Nat.blt h.next Tr.top with
  | false => simp [hcond] at hm
  | true =>
    simp only [hcond, cond_true, Option.some.injEq, Prod.mk.injEq] at hm
    obtain ⟨rfl, rfl⟩ := hm
    have c6 : h.next < Tr.top := Nat.le_of_ble_eq_true hcond
    have hq : μ h.next = none := hw.fresh _ (Nat.le_refl _) c6
    have hal := WR.allocObj hw (q := h.next) (n' := h.next + 1) (x := .map #[] 0) (row := ⟨[], false, .map false⟩) c6 hq (fun h0 => by have := (hw.hole _ h0).2; omega) (by omega) (by omega) rfl rfl
      (fun w' hw' => ⟨w.heap.size, #[], 0, by simp [setM], hw', VRs.nil, rfl, hw.base _ (Nat.le_refl _)⟩)
    refine ⟨setM μ h.next (w.heap.size, 0, 1), _, .map (some w.heap.size), ?_, VR.mapp h.next w.heap.size (by simp [setM]), le_setM hq _, by rw [find_put_fun _ _ _ c6]; exact hal.1, by rw [find_put_fun _ _ _ c6]; exact hal.2⟩
    simp only [Instr.makeMap, Sem.run_bind, Result.andThen_ok, Sem.run_pure, run_newObj]
def apK {β : Type} : List Value → List Value → (List Value → β) → β
  | [], m, k => k m
  | x :: l, m, k => apK l m fun l' => k (x :: l')
theorem apK_eq {β : Type} : ∀ (l m : List Value) (k : List Value → β), apK l m k = k (l ++ m) := by
  intro l
  induction l with
  | nil => intro m k; rfl
  | cons x l ih => intro m k; simp only [apK, ih, List.cons_append]
def delK {β : Type} : List Value → Nat → (List Value → β) → β
  | _ :: _ :: r, 0, k => k r
  | a :: b :: r, j + 1, k => delK r j fun l' => k (a :: b :: l')
  | l, _, k => k l
theorem flatMap_modify (f : MapEntry → MapEntry) : ∀ (es : List MapEntry) (j : Nat) (e : MapEntry), es[j]? = some e → flatMap (es.modify j f) = ovr (flatMap es) (2 * j) [(f e).key, (f e).val] := by
  intro es
  induction es with
  | nil => intro j e h; simp at h
  | cons x es ih =>
    intro j e h
    cases j with
    | zero => simp at h; subst h; simp [flatMap, ovr]
    | succ j =>
      simp at h
      simp only [List.modify_succ_cons, flatMap]
      rw [ih j e h, show 2 * (j + 1) = (2 * j) + 1 + 1 by omega, ovr_succ, ovr_succ]
theorem flatMap_append : ∀ (es fs : List MapEntry), flatMap (es ++ fs) = flatMap es ++ flatMap fs := by
  intro es
  induction es with
  | nil => intro fs; rfl
  | cons x es ih => intro fs; simp [flatMap, ih]
theorem flatMap_length : ∀ (es : List MapEntry), (flatMap es).length = 2 * es.length := by
  intro es
  induction es with
  | nil => rfl
  | cons x es ih => simp only [flatMap, List.length_cons, ih]; omega
def aUpd0 (P : Program) (rows : Tr Row) (t : TypeId) (m k v : Value) : Option (Tr Row) :=
  match m with
  | .map (some r) =>
    match P.underlying t, rows.find r, ents rows (.map (some r)) with
    | some (.map kt _), some ⟨cells, false, .map sy⟩, some es =>
      bif flat 12 k && keysFlat es && Nat.blt r Tr.top then
        match pureRun P (Instr.checkKey false 10000 kt k), pureRun P (Instr.findKey kt k es) with
        | some _, some (some (j, _)) =>
          match es[j]? with
          | some e => bif Instr.sameBits 10000 e.key k then wrK cells (2 * j) [k, v] fun l => some (rows.put r (some ⟨l, false, .map sy⟩)) else none
          | none => none
        | some _, some none => apK cells [k, v] fun l => some (rows.put r (some ⟨l, false, .map sy⟩))
        | _, _ => none
      else none
    | _, _, _ => none
  | _ => none
theorem aUpd0_sound {rows rows' : Tr Row} (hw : WR B μ rows.find n w) {t : TypeId} {m m' k k' v v' : Value} (hm : VR μ m m') (hk : VR μ k k') (hv : VR μ v v') (h : aUpd0 P rows t m k v = some rows') :
    ∃ w', (Instr.mapUpdate t m' k' v').run P w = .ok () w' ∧ WR B μ rows'.find n w' ∧ Keep μ rows.find w μ rows'.find w' := by
  unfold aUpd0 at h
  split at h
  · rename_i r
    split at h
    · rename_i kt et cells sy es hd hr he
      cases hc : (flat 12 k && keysFlat es && Nat.blt r Tr.top) with
      | false => simp [hc] at h
      | true =>
        simp only [hc, cond_true] at h
        simp only [Bool.and_eq_true] at hc
        have c6 : r < Tr.top := Nat.le_of_ble_eq_true hc.2
        have ek := flat_eq _ _ _ hc.1.1 hk
        subst ek
        obtain ⟨b, es', t', cells', sy', rfl, g1, g2, g3, g4, g5, g6, g7⟩ := getMap hw hm he hc.1.2
        rw [hr] at g3
        simp only [Option.some.injEq, Row.mk.injEq, true_and, Ob.map.injEq] at g3
        obtain ⟨rfl, rfl⟩ := g3
        have hget := run_getObj (P := P) g2 (by intro _ _ _ h; cases h)
        have hset : ∀ x : Obj, (setObj b x).run P w = .ok () { w with heap := w.heap.setIfInBounds b x } := fun x => run_setObj (P := P) g2 (by intro _ _ _ h; cases h)
        split at h
        · rename_i u j v0 h1 h2
          split at h
          · rename_i e hej
            cases hs : Instr.sameBits 10000 e.key k' with
            | false => simp [hs] at h
            | true =>
              simp only [hs, cond_true] at h
              obtain ⟨r', hf, hfr⟩ := findKey_rel (P := P) (w := w) g6 h2
              cases r' with
              | none => exact hfr.elim
              | some p =>
                obtain ⟨j', v1⟩ := p
                obtain ⟨rfl, _⟩ := hfr
                obtain ⟨e', hej', hkk⟩ := g6.key hej
                have hej2 : es'[j]? = some e' := by simpa using hej'
                have hlt : j < es'.toList.length := (List.getElem?_eq_some_iff.1 hej').1
                have hcl : cells.length = 2 * es'.toList.length := by rw [g5.1, flatMap_length]
                rw [wrK_eq _ _ _ _ (by simp only [List.length_cons, List.length_nil]; omega)] at h
                simp at h; subst h
                have key := WR.setRow (row' := ⟨ovr cells (2 * j) [k', v], false, .map sy⟩) (x := .map (es'.modify j fun e => { e with key := k', val := v' }) t') hw hr rfl rfl g1 g2 rfl rfl
                  (fun w' hw' => ⟨b, _, t', g1, hw', by
                    rw [Array.toList_modify, flatMap_modify _ _ j e' hej']
                    exact g5.ovr (VRs.cons hk (VRs.cons hv VRs.nil)) (2 * j), rfl, g7⟩)
                refine ⟨_, ?_, by rw [find_put_fun _ _ _ c6]; exact key.1, by rw [find_put_fun _ _ _ c6]; exact key.2⟩
                simp only [Instr.mapUpdate, Sem.run_bind, run_underlying hd, Result.andThen_ok, hget, pureRun_sound _ h1 w, hf, hej2, Option.map_some, Option.getD_some, Instr.keyThatStays, hkk, hs, if_true, Sem.run_pure, hset]
          · simp at h
        · rename_i u h1 h2
          obtain ⟨r', hf, hfr⟩ := findKey_rel (P := P) (w := w) g6 h2
          cases r' with
          | some p => exact hfr.elim
          | none =>
            rw [apK_eq] at h
            simp at h; subst h
            have key := WR.setRow (row' := ⟨cells ++ [k', v], false, .map sy⟩) (x := .map (es'.push { key := k', val := v', born := t' }) (t' + 1)) hw hr rfl rfl g1 g2 rfl rfl
              (fun w' hw' => ⟨b, _, t' + 1, g1, hw', by
                rw [Array.toList_push, flatMap_append]
                exact g5.append (VRs.cons hk (VRs.cons hv VRs.nil)), rfl, g7⟩)
            refine ⟨_, ?_, by rw [find_put_fun _ _ _ c6]; exact key.1, by rw [find_put_fun _ _ _ c6]; exact key.2⟩
            simp only [Instr.mapUpdate, Sem.run_bind, run_underlying hd, Result.andThen_ok, hget, pureRun_sound _ h1 w, hf, hset]
        · simp at h
    · simp at h
  · simp at h
theorem delK_eq {β : Type} : ∀ (es : List MapEntry) (cells : List Value) (j : Nat) (k : List Value → β), VRs μ cells (flatMap es) → j < es.length → ∃ l, delK cells j k = k l ∧ VRs μ l (flatMap (es.eraseIdx j)) := by
  intro es
  induction es with
  | nil => intro cells j k _ h; simp at h
  | cons e es ih =>
    intro cells j k hv h
    cases cells with
    | nil => have := hv.1; simp [flatMap] at this
    | cons a l =>
      cases l with
      | nil => have := hv.1; simp [flatMap] at this
      | cons c r =>
        obtain ⟨b1, m1, e1, h1, h2⟩ := VRs.uncons hv
        simp only [flatMap, List.cons.injEq] at e1
        obtain ⟨rfl, rfl⟩ := e1
        obtain ⟨b2, m2, e2, h3, h4⟩ := VRs.uncons h2
        simp only [List.cons.injEq] at e2
        obtain ⟨rfl, rfl⟩ := e2
        cases j with
        | zero => exact ⟨r, rfl, by simpa using h4⟩
        | succ j =>
          obtain ⟨l, hl, hr⟩ := ih r j (fun l' => k (a :: c :: l')) h4 (by simp at h; omega)
          exact ⟨a :: c :: l, hl, VRs.cons h1 (VRs.cons h3 hr)⟩
def aDelete (P : Program) (rows : Tr Row) (t : TypeId) (m k : Value) : Option (Tr Row) :=
  match m with
  | .map (some r) =>
    match P.underlying t, rows.find r, ents rows (.map (some r)) with
    | some (.map kt _), some ⟨cells, false, .map sy⟩, some es =>
      bif flat 12 k && keysFlat es && Nat.blt r Tr.top then
        match pureRun P (Instr.checkKey es.isEmpty 10000 kt k), pureRun P (Instr.findKey kt k es) with
        | some _, some (some (j, _)) => bif Nat.blt j es.length then delK cells j fun l => some (rows.put r (some ⟨l, false, .map sy⟩)) else none
        | some _, some none => some (bif sy then rows.put r (some ⟨cells, false, .map sy⟩) else rows)
        | _, _ => none
      else none
    | _, _, _ => none
  | _ => none
theorem aDelete_sound {rows rows' : Tr Row} (hw : WR B μ rows.find n w) {t ty : TypeId} {more : List TypeId} {m m' k k' : Value} (hm : VR μ m m') (hk : VR μ k k') (h : aDelete P rows t m k = some rows') :
    ∃ w', (Builtin.delete_ (t :: more).toArray ty #[m', k']).run P w = .ok (.tuple #[]) w' ∧ WR B μ rows'.find n w' ∧ Keep μ rows.find w μ rows'.find w' := by
  unfold aDelete at h
  split at h
  · rename_i r
    split at h
    · rename_i kt et cells sy es hd hr he
      cases hc : (flat 12 k && keysFlat es && Nat.blt r Tr.top) with
      | false => simp [hc] at h
      | true =>
        simp only [hc, cond_true] at h
        simp only [Bool.and_eq_true] at hc
        have c6 : r < Tr.top := Nat.le_of_ble_eq_true hc.2
        have ek := flat_eq _ _ _ hc.1.1 hk
        subst ek
        obtain ⟨b, es', t', cells', sy', rfl, g1, g2, g3, g4, g5, g6, g7⟩ := getMap hw hm he hc.1.2
        rw [hr] at g3
        simp only [Option.some.injEq, Row.mk.injEq, true_and, Ob.map.injEq] at g3
        obtain ⟨rfl, rfl⟩ := g3
        have hget := run_getObj (P := P) g2 (by intro _ _ _ h; cases h)
        have hset : ∀ x : Obj, (setObj b x).run P w = .ok () { w with heap := w.heap.setIfInBounds b x } := fun x => run_setObj (P := P) g2 (by intro _ _ _ h; cases h)
        split at h
        · rename_i u j v0 h1 h2
          cases hlt : Nat.blt j es.length with
          | false => simp [hlt] at h
          | true =>
            simp only [hlt, cond_true] at h
            have hj : j < es.length := Nat.le_of_ble_eq_true hlt
            rw [g6.length] at hj
            obtain ⟨l, hl, hlr⟩ := delK_eq (μ := μ) es'.toList cells j (fun l => some (rows.put r (some ⟨l, false, .map sy⟩))) g5 hj
            rw [hl] at h
            simp at h; subst h
            obtain ⟨r', hf, hfr⟩ := findKey_rel (P := P) (w := w) g6 h2
            cases r' with
            | none => exact hfr.elim
            | some p =>
              obtain ⟨j', v1⟩ := p
              obtain ⟨rfl, _⟩ := hfr
              have key := WR.setRow (row' := ⟨l, false, .map sy⟩) (x := .map (es'.eraseIdxIfInBounds j) t') hw hr rfl rfl g1 g2 rfl rfl
                (fun w' hw' => ⟨b, _, t', g1, hw', by simpa using hlr, rfl, g7⟩)
              refine ⟨_, ?_, by rw [find_put_fun _ _ _ c6]; exact key.1, by rw [find_put_fun _ _ _ c6]; exact key.2⟩
              have h1' := pureRun_sound _ h1 w
              rw [← isEmpty_rel g6] at h1'
              simp only [Builtin.delete_, List.getElem?_toArray, List.getElem?_cons_zero, List.getElem?_cons_succ, Sem.run_bind, run_underlying hd, Result.andThen_ok, hget, h1', hf, hset, Sem.run_pure]
        · rename_i u h1 h2
          simp at h; subst h
          obtain ⟨r', hf, hfr⟩ := findKey_rel (P := P) (w := w) g6 h2
          cases r' with
          | some p => exact hfr.elim
          | none =>
            have h1' := pureRun_sound _ h1 w
            rw [← isEmpty_rel g6] at h1'
            have key := WR.setRow (row' := ⟨cells, false, .map sy⟩) (x := .map es' t') hw hr rfl rfl g1 g2 rfl rfl (fun w' hw' => ⟨b, es', t', g1, hw', g5, rfl, g7⟩)
            have hF : setF rows.find r (some ⟨cells, false, .map sy⟩) = rows.find := by
              funext z; unfold setF; split
              · rename_i e; subst e; exact hr.symm
              · rfl
            rw [hF] at key
            have hF2 : (bif sy then rows.put r (some ⟨cells, false, .map sy⟩) else rows).find = rows.find := by
              cases sy
              · rfl
              · simp only [cond_true]; rw [find_put_fun _ _ _ c6]; exact hF
            rw [hF2]
            refine ⟨_, ?_, key.1, key.2⟩
            simp only [Builtin.delete_, List.getElem?_toArray, List.getElem?_cons_zero, List.getElem?_cons_succ, Sem.run_bind, run_underlying hd, Result.andThen_ok, hget, h1', hf, hset, Sem.run_pure]
        · simp at h
    · simp at h
  · simp at h
def qnan : FloatKind → Nat
  | .f32 => 0x7fc00000
  | .f64 => 0x7ff8000000000001
theorem isNan_of {k : FloatKind} {v : Nat} (h1 : ¬ v % k.format.signWeight < k.format.binade) (h2 : ¬ v % k.format.signWeight < k.format.infRung) (h3 : ¬ v % k.format.signWeight = k.format.infRung) : isNan k v = true := by
  unfold isNan Ieee.Format.read
  simp only [if_neg h1, if_neg h2, if_neg h3]
theorem above {sw inf bin N neg : Nat} (h2 : bin ≤ inf) (h3 : inf < N) (h4 : N < sw) :
    ¬ ((neg * sw + N) % sw < bin) ∧ ¬ ((neg * sw + N) % sw < inf) ∧ ¬ ((neg * sw + N) % sw = inf) := by
  have : (neg * sw + N) % sw = N := by rw [Nat.add_comm, Nat.add_mul_mod_self_right, Nat.mod_eq_of_lt h4]
  rw [this]; omega
theorem isNan_cut (k : FloatKind) (x y t : Nat) : isNan k ((Question.nanBits k x y).cut t) = true := by
  have key : ∀ (p q : Nat), k.format.signWeight = 2 ^ p → k.format.infRung + (2 ^ q - 1) < 2 ^ p → k.format.binade ≤ k.format.infRung → 0 < 2 ^ q - 1 →
      (Question.nanBits k x y).cut t = t % 2 * 2 ^ p + k.format.infRung + 1 + t / 2 % (2 ^ q - 1) → isNan k ((Question.nanBits k x y).cut t) = true := by
    intro p q h1 h2 h3 h4 h5
    have h6 : t / 2 % (2 ^ q - 1) < 2 ^ q - 1 := Nat.mod_lt _ h4
    have e := above (sw := k.format.signWeight) (inf := k.format.infRung) (bin := k.format.binade) (N := k.format.infRung + 1 + t / 2 % (2 ^ q - 1)) (neg := t % 2) h3 (by omega) (by rw [h1]; omega)
    have h7 : (Question.nanBits k x y).cut t = t % 2 * k.format.signWeight + (k.format.infRung + 1 + t / 2 % (2 ^ q - 1)) := by rw [h5, h1]; omega
    rw [h7]
    exact isNan_of e.1 e.2.1 e.2.2
  cases k with
  | f32 => exact key 31 23 (by decide) (by decide) (by decide) (by decide) rfl
  | f64 => exact key 63 52 (by decide) (by decide) (by decide) (by decide) rfl
theorem isNan_qnan (k : FloatKind) : isNan k (qnan k) = true := by cases k <;> decide
def aUpdate (P : Program) (h : Hp) (t : TypeId) (m k v : Value) : Option (Tr Row) :=
  match m with
  | .map (some r) =>
    match h.rows.find r, P.underlying t with
    | some ⟨_, _, .map true⟩, some (.map _ et) =>
      bif Nat.ble h.next Tr.top then
        match frz1 P h.rows et v with
        | some (v1, rows1) => aUpd0 P rows1 t (.map (some r)) k v1
        | none => none
      else none
    | _, _ => aUpd0 P h.rows t (.map (some r)) k v
  | _ => none
theorem aUpdate_sound {h : Hp} {rows' : Tr Row} (hw : WR B μ h.rows.find h.next w) {t : TypeId} {m m' k k' v v' : Value} (hm : VR μ m m') (hk : VR μ k k') (hv : VR μ v v') (hu : aUpdate P h t m k v = some rows') :
    ∃ μ' w', (Instr.mapUpdate t m' k' v').run P w = .ok () w' ∧ Le μ μ' ∧ WR B μ' rows'.find h.next w' ∧ Keep μ h.rows.find w μ' rows'.find w' := by
  unfold aUpdate at hu
  split at hu
  · rename_i r
    split at hu
    · cases hb : Nat.ble h.next Tr.top with
      | false => rw [hb] at hu; simp at hu
      | true =>
        rw [hb] at hu
        simp only [cond_true] at hu
        split at hu
        · rename_i v1 rows1 hf
          have hht : ∀ z, B.hole z → z < Tr.top := fun z hz => Nat.lt_of_lt_of_le (hw.hole z hz).2 (Nat.le_of_ble_eq_true hb)
          obtain ⟨μ1, a1, a2, a3, a4⟩ := frz1_sound hw hht hv hf
          obtain ⟨w', b1, b2, b3⟩ := aUpd0_sound (P := P) a2 (hm.le a1) (hk.le a1) a4 hu
          exact ⟨μ1, w', b1, a1, b2, a3.trans b3⟩
        · simp at hu
    · obtain ⟨w', b1, b2, b3⟩ := aUpd0_sound (P := P) hw hm hk hv hu
      exact ⟨μ, w', b1, Le.refl _, b2, b3⟩
  · simp at hu
def evX (P : Program) (ρ : Operand → Option Value) (h : Hp) (o : Oper) : Option (Option Value × Hp) :=
  match o.op with
  | .binOp op _ x y _ =>
    match ρ x, ρ y with
    | some (.float k a), some (.float k' b) => bif decide (k = k') then (match fres op k a b with | some none => some (some (.float k (qnan k)), h) | _ => none) else none
    | _, _ => none
  | .range t x => (match ρ x with | some v => (match aRange P h t v with | some (v, h') => some (some v, h') | none => none) | none => none)
  | .next it s => (match ρ it with | some v => (match aNext h v s with | some (v, h') => some (some v, h') | none => none) | none => none)
  | .makeMap _ none => (match aMakeMap h with | some (v, h') => some (some v, h') | none => none)
  | .mapUpdate t m k x | .insert t m k x =>
    match ρ m, ρ k, ρ x with
    | some mv, some kv, some xv => (match aUpdate P h t mv kv xv with | some rows => some (none, ⟨rows, h.next⟩) | none => none)
    | _, _, _ => none
  | .call c =>
    match c.callee, c.args.toList, c.argTypes.toList with
    | .builtin .delete, [m, k], t :: _ =>
      match ρ m, ρ k with
      | some mv, some kv => (match aDelete P h.rows t mv kv with | some rows => some (some (.tuple #[]), ⟨rows, h.next⟩) | none => none)
      | _, _ => none
    | _, _, _ => none
  | _ => none
theorem evX_sound {ρ : Operand → Option Value} {ρ' : Operand → Value} {h h' : Hp} (hw : WR B μ h.rows.find h.next w) {o : Oper} {r : Option Value} (hρ : ∀ x v, ρ x = some v → VR μ v (ρ' x)) (he : evX P ρ h o = some (r, h')) :
    ∃ μ' w', Le μ μ' ∧ WR B μ' h'.rows.find h'.next w' ∧ Keep μ h.rows.find w μ' h'.rows.find w' ∧
      match r with
      | some v => ∃ v', (execOp ρ' o).run P w = .ok (.value v') w' ∧ VR μ' v v'
      | none => (execOp ρ' o).run P w = .ok .skip w' := by
  have upd : ∀ t m k x, (execOp ρ' o = do Instr.mapUpdate t (ρ' m) (ρ' k) (ρ' x); pure .skip) →
      (match ρ m, ρ k, ρ x with
        | some mv, some kv, some xv => (match aUpdate P h t mv kv xv with | some rows => some ((none : Option Value), (⟨rows, h.next⟩ : Hp)) | none => none)
        | _, _, _ => none) = some (r, h') → ∃ μ' w', Le μ μ' ∧ WR B μ' h'.rows.find h'.next w' ∧ Keep μ h.rows.find w μ' h'.rows.find w' ∧
      match r with
      | some v => ∃ v', (execOp ρ' o).run P w = .ok (.value v') w' ∧ VR μ' v v'
      | none => (execOp ρ' o).run P w = .ok .skip w' := by
    intro t m k x ho he
    split at he
    · rename_i mv kv xv hm hk hx
      split at he
      · rename_i rows hu
        simp at he; obtain ⟨rfl, rfl⟩ := he
        obtain ⟨μ', w', h1, h0, h2, h3⟩ := aUpdate_sound (P := P) hw (hρ _ _ hm) (hρ _ _ hk) (hρ _ _ hx) hu
        refine ⟨μ', w', h0, h2, h3, ?_⟩
        simp only [ho, Sem.run_bind, h1, Result.andThen_ok, Sem.run_pure]
      · simp at he
    · simp at he
  unfold evX at he
  split at he
  · rename_i op t x y ty ho
    split at he
    · rename_i k a k' b hx hy
      cases hk : decide (k = k') with
      | false => simp [hk] at he
      | true =>
        simp only [hk, cond_true] at he
        have e : k = k' := of_decide_eq_true hk
        subst e
        split at he
        · rename_i hr
          simp at he; obtain ⟨rfl, rfl⟩ := he
          obtain ⟨a', ea, ha⟩ := float_inv (hρ x _ hx)
          obtain ⟨b', eb, hb⟩ := float_inv (hρ y _ hy)
          have h2 := fres_rel hr ha hb
          have hg : ∀ w : World, (eqGuard op t x y (.float k a') (.float k b')).run P w = .ok () w := fun w => by cases op <;> rfl
          have hch : (choose (.nanBits k a' b')).run P w = .ok ((Question.nanBits k a' b').cut (w.tape w.drawn (.nanBits k a' b'))) { w with drawn := w.drawn + 1 } := by
            simp [choose, Sem.run, Question.forced]
          refine ⟨μ, { w with drawn := w.drawn + 1 }, Le.refl _, hw.drew _, Keep.drew _ _ _ _, .float k ((Question.nanBits k a' b').cut (w.tape w.drawn (.nanBits k a' b'))), ?_, .nan _ _ _ (isNan_qnan k) (isNan_cut _ _ _ _)⟩
          simp only [execOp, ho, ea, eb, Sem.run_bind, hg, Result.andThen_ok]
          unfold fres at h2
          cases op <;> simp at h2 <;> simp [binOp, Op.floatArith, h2, hch]
        · simp at he
    · simp at he
  · rename_i t x ho
    split at he
    · rename_i xv hx
      split at he
      · rename_i v h2 hm
        simp at he; obtain ⟨rfl, rfl⟩ := he
        obtain ⟨μ', w', v', h1, h2, h3, h4, h5⟩ := aRange_sound (P := P) hw (hρ _ _ hx) hm
        exact ⟨μ', w', h3, h4, h5, v', by simp only [execOp, ho, Sem.run_bind, h1, Result.andThen_ok, Sem.run_pure], h2⟩
      · simp at he
    · simp at he
  · rename_i it str ho
    split at he
    · rename_i xv hx
      split at he
      · rename_i v h2 hm
        simp at he; obtain ⟨rfl, rfl⟩ := he
        obtain ⟨μ', w', v', h1, h2, h3, h4, h5⟩ := aNext_sound (P := P) (ty := o.type) hw (hρ _ _ hx) hm
        exact ⟨μ', w', h3, h4, h5, v', by simp only [execOp, ho, Sem.run_bind, h1, Result.andThen_ok, Sem.run_pure], h2⟩
      · simp at he
    · simp at he
  · rename_i t ho
    split at he
    · rename_i v h2 hm
      simp at he; obtain ⟨rfl, rfl⟩ := he
      obtain ⟨μ', w', v', h1, h2, h3, h4, h5⟩ := aMakeMap_sound (P := P) (t := t) hw hm
      exact ⟨μ', w', h3, h4, h5, v', by simp only [execOp, ho, Option.map_none, Sem.run_bind, h1, Result.andThen_ok, Sem.run_pure], h2⟩
    · simp at he
  · rename_i t m k x ho
    exact upd t m k x (by simp only [execOp, ho]) he
  · rename_i t m k x ho
    exact upd t m k x (by simp only [execOp, ho]) he
  · rename_i c ho
    split at he
    · rename_i m k t more hc e1 e2
      split at he
      · rename_i mv kv hm hk
        split at he
        · rename_i rows hu
          simp at he; obtain ⟨rfl, rfl⟩ := he
          obtain ⟨w', h1, h2, h3⟩ := aDelete_sound (P := P) (ty := o.type) (more := more) hw (hρ _ _ hm) (hρ _ _ hk) hu
          have ea : c.args.map ρ' = #[ρ' m, ρ' k] := by
            have : c.args = #[m, k] := by apply Array.ext'; simpa using e1
            rw [this]; simp
          have et : c.argTypes = (t :: more).toArray := by apply Array.ext'; simpa using e2
          refine ⟨μ, w', Le.refl _, h2, h3, .tuple #[], ?_, .tuple _ _ rfl (fun i h => by simp at h)⟩
          simp only [execOp, ho, resolve, hc, Sem.run_bind, Sem.run_pure, Result.andThen_ok, invoke, builtin, ea, et, h1]
        · simp at he
      · simp at he
    · simp at he
  · simp at he
theorem pureRun_mk {α β : Type} {f : α → Sem β} {a : α} {r : β} : ∀ (s : Sem α), pureRun P s = some a → pureRun P (f a) = some r → pureRun P (s >>= f) = some r := by
  intro s
  induction s with
  | pure x => intro h1 h2; simp only [pureRun, Option.some.injEq] at h1; subst h1; exact h2
  | program k ih => intro h1 h2; exact ih P h1 h2
  | mark m k ih => intro h1 h2; exact ih h1 h2
  | _ => intro h1; simp [pureRun] at h1
theorem pureRun_und {t : TypeId} {d : TypeDesc} (h : P.underlying t = some d) : pureRun P (underlying t) = some d := by
  unfold underlying
  refine pureRun_mk (a := P) _ rfl ?_
  simp only [h]; rfl
theorem ba_beq (a b : ByteArray) : (a == b) = decide (a = b) := by
  rcases a with ⟨a⟩; rcases b with ⟨b⟩
  show (a == b) = _
  by_cases h : a = b
  · subst h; simp
  · have : ¬ (ByteArray.mk a = ByteArray.mk b) := fun e => h (by cases e; rfl)
    simp [h, this]
def sameK : Value → Value → Bool
  | .string a, .string b => a == b
  | .int _ a, .int _ b => a == b
  | _, _ => false
def mPos0 : List Value → Value → Option Nat
  | k :: _ :: r, key => bif sameK key k then some 0 else (match mPos0 r key with | some j => some (j + 1) | none => none)
  | _, _ => none
def keyOk (P : Program) (kt : TypeId) : Value → Bool
  | .string _ => (match P.underlying kt with | some .string => true | _ => false)
  | .int q _ => (match P.underlying kt with | some (.int q') => decide (q = q') | _ => false)
  | _ => false
def likeK : Value → Value → Prop
  | .string _, .string _ => True
  | .int q _, .int q' _ => q = q'
  | _, _ => False
def MKeys0 : List Value → Value → Prop
  | [], _ => True
  | k :: _ :: r, key => likeK key k ∧ MKeys0 r key
  | _, _ => False
theorem checkKey_ok {kt : TypeId} {key : Value} (h : keyOk P kt key = true) (e : Bool) : pureRun P (Instr.checkKey e 10000 kt key) = some () := by
  unfold keyOk at h
  split at h
  · split at h
    · rename_i hd
      unfold Instr.checkKey
      exact pureRun_mk _ (pureRun_und hd) rfl
    · simp at h
  · split at h
    · rename_i hd
      unfold Instr.checkKey
      exact pureRun_mk _ (pureRun_und hd) rfl
    · simp at h
  · simp at h
theorem sameNow_ok {kt : TypeId} {key k : Value} (h : keyOk P kt key = true) (hl : likeK key k) : ∃ d, P.underlying kt = some d ∧ Instr.sameNow d key k = some (sameK key k) ∧ flat 12 k = true ∧ flat 12 key = true ∧ (sameK key k = true → k = key ∧ Instr.sameBits 10000 k key = true) := by
  unfold keyOk at h
  split at h
  · split at h
    · rename_i s hd
      cases k <;> simp only [likeK] at hl
      refine ⟨_, hd, rfl, rfl, rfl, fun he => ?_⟩
      simp only [sameK, ba_beq, decide_eq_true_eq] at he
      subst he
      exact ⟨rfl, by simp [Instr.sameBits, ba_beq]⟩
    · simp at h
  · split at h
    · rename_i q n q' hd
      simp only [decide_eq_true_eq] at h
      subst h
      cases k <;> simp only [likeK] at hl
      subst hl
      refine ⟨_, hd, by simp [Instr.sameNow, sameK], rfl, rfl, fun he => ?_⟩
      simp only [sameK] at he
      have e1 := eq_of_beq he
      subst e1
      exact ⟨rfl, by simp [Instr.sameBits]⟩
    · simp at h
  · simp at h
theorem mPos_spec {kt : TypeId} {key : Value} (h : keyOk P kt key = true) {d : TypeDesc} (hd : P.underlying kt = some d) : ∀ (C : List Value) (i : Nat), MKeys0 C key → ∃ es, unflat C = some es ∧ keysFlat es = true ∧ C.length = 2 * es.length ∧
    match mPos0 C key with
    | some j => ∃ e, es[j]? = some e ∧ e.key = key ∧ C[2 * j + 1]? = some e.val ∧ Instr.sameBits 10000 e.key key = true ∧ Instr.findNow d key es i = some (some (i + j, e.val))
    | none => Instr.findNow d key es i = some none
  | [], i, _ => ⟨[], rfl, rfl, rfl, rfl⟩
  | [a], i, hm => hm.elim
  | k :: v :: r, i, hm => by
    obtain ⟨hk, hr⟩ := hm
    obtain ⟨es, e1, e2, e3, e4⟩ := mPos_spec h hd r (i + 1) hr
    obtain ⟨d', hd', f1, f2, _, f3⟩ := sameNow_ok h hk
    rw [hd] at hd'
    simp only [Option.some.injEq] at hd'
    subst hd'
    refine ⟨⟨k, v, 0⟩ :: es, by simp only [unflat, e1], by simp only [keysFlat, f2, e2, Bool.and_self], by simp only [List.length_cons, e3]; omega, ?_⟩
    unfold mPos0
    cases hs : sameK key k with
    | true =>
      obtain ⟨rfl, f4⟩ := f3 hs
      exact ⟨_, rfl, rfl, rfl, f4, by simp only [Instr.findNow, f1, hs]; rfl⟩
    | false =>
      simp only [cond_false]
      cases hp : mPos0 r key with
      | some j =>
        rw [hp] at e4
        obtain ⟨e, g1, g2, g3, g4, g5⟩ := e4
        refine ⟨e, by simpa using g1, g2, ?_, g4, ?_⟩
        · rw [show 2 * (j + 1) + 1 = (2 * j + 1) + 1 + 1 by omega]; simpa using g3
        · simp only [Instr.findNow, f1, hs, g5]; rw [show i + 1 + j = i + (j + 1) by omega]
      | none =>
        rw [hp] at e4
        simp only [Instr.findNow, f1, hs]; exact e4
theorem findKey_ok {kt : TypeId} {key : Value} {d : TypeDesc} (hd : P.underlying kt = some d) {es : List MapEntry} {r : Option (Nat × Value)} (h : Instr.findNow d key es 0 = some r) : pureRun P (Instr.findKey kt key es) = some r := by
  unfold Instr.findKey
  refine pureRun_mk _ (pureRun_und hd) ?_
  simp only [h]; rfl
theorem keyOk_und {kt : TypeId} {key : Value} (h : keyOk P kt key = true) : ∃ d, P.underlying kt = some d := by
  unfold keyOk at h
  split at h
  · split at h
    · rename_i hd; exact ⟨_, hd⟩
    · simp at h
  · split at h
    · rename_i hd; exact ⟨_, hd⟩
    · simp at h
  · simp at h
theorem keyOk_flat {kt : TypeId} {key : Value} (h : keyOk P kt key = true) : flat 12 key = true := by
  unfold keyOk at h
  split at h
  · rfl
  · rfl
  · simp at h
def mpPut0 (C : List Value) (key v : Value) : List Value := match mPos0 C key with | some j => ovr C (2 * j) [key, v] | none => C ++ [key, v]
def mpDel0 (C : List Value) (key : Value) : List Value := match mPos0 C key with | some j => C.take (2 * j) ++ C.drop (2 * j + 2) | none => C
def mpOne0 (C : List Value) (key : Value) : List Value := match mPos0 C key with | some j => (C.drop (2 * j + 1)).take 1 | none => []
theorem aUpd0_ok {rows : Tr Row} {t kt et : TypeId} {r : Nat} {C : List Value} {sy : Bool} {key v : Value} (ht : P.underlying t = some (.map kt et)) (hr : rows.find r = some ⟨C, false, .map sy⟩) (hk : keyOk P kt key = true) (hm : MKeys0 C key) (hb : Nat.blt r Tr.top = true) :
    aUpd0 P rows t (.map (some r)) key v = some (rows.put r (some ⟨mpPut0 C key v, false, .map sy⟩)) := by
  obtain ⟨d, hd⟩ := keyOk_und hk
  obtain ⟨es, e1, e2, e3, e4⟩ := mPos_spec hk hd C 0 hm
  unfold mpPut0
  cases hp : mPos0 C key with
  | some j =>
    rw [hp] at e4
    obtain ⟨e, g1, g2, g3, g4, g5⟩ := e4
    have hf := findKey_ok (P := P) hd g5
    have hj : j < es.length := (List.getElem?_eq_some_iff.1 g1).1
    rw [Nat.zero_add] at hf
    simp only [aUpd0, ht, hr, ents, e1, keyOk_flat hk, e2, hb, Bool.and_self, cond_true, checkKey_ok hk, hf, g1, g4]
    rw [wrK_eq _ _ _ _ (by simp only [List.length_cons, List.length_nil]; omega)]
  | none =>
    rw [hp] at e4
    have hf := findKey_ok (P := P) hd e4
    simp only [aUpd0, ht, hr, ents, e1, keyOk_flat hk, e2, hb, Bool.and_self, cond_true, checkKey_ok hk, hf, apK_eq]
theorem delK_at {β : Type} : ∀ (C : List Value) (j : Nat) (k : List Value → β), 2 * j + 1 < C.length → delK C j k = k (C.take (2 * j) ++ C.drop (2 * j + 2))
  | [], j, k, h => by simp at h
  | [a], j, k, h => by simp at h
  | a :: b :: r, 0, k, h => rfl
  | a :: b :: r, j + 1, k, h => by
    have := delK_at r j (fun l' => k (a :: b :: l')) (by simp at h; omega)
    simp only [delK, this]
    rw [show 2 * (j + 1) = 2 * j + 1 + 1 by omega, show 2 * j + 1 + 1 + 2 = (2 * j + 2) + 1 + 1 by omega]
    simp only [List.take_succ_cons, List.drop_succ_cons, List.cons_append]
theorem aDelete_ok {rows : Tr Row} {t kt et : TypeId} {r : Nat} {C : List Value} {key : Value} (ht : P.underlying t = some (.map kt et)) (hr : rows.find r = some ⟨C, false, .map true⟩) (hk : keyOk P kt key = true) (hm : MKeys0 C key) (hb : Nat.blt r Tr.top = true) :
    aDelete P rows t (.map (some r)) key = some (rows.put r (some ⟨mpDel0 C key, false, .map true⟩)) := by
  obtain ⟨d, hd⟩ := keyOk_und hk
  obtain ⟨es, e1, e2, e3, e4⟩ := mPos_spec hk hd C 0 hm
  unfold mpDel0
  cases hp : mPos0 C key with
  | some j =>
    rw [hp] at e4
    obtain ⟨e, g1, g2, g3, g4, g5⟩ := e4
    have hf := findKey_ok (P := P) hd g5
    have hj : j < es.length := (List.getElem?_eq_some_iff.1 g1).1
    rw [Nat.zero_add] at hf
    simp only [aDelete, ht, hr, ents, e1, keyOk_flat hk, e2, hb, Bool.and_self, cond_true, checkKey_ok hk, hf, show Nat.blt j es.length = true from Nat.ble_eq_true_of_le hj]
    rw [delK_at _ _ _ (by omega)]
  | none =>
    rw [hp] at e4
    have hf := findKey_ok (P := P) hd e4
    simp only [aDelete, ht, hr, ents, e1, keyOk_flat hk, e2, hb, Bool.and_self, cond_true, checkKey_ok hk, hf]
end
end
end Go.Ev
namespace Go.Ev
noncomputable section
open Go.RowKit
def DR (μ : Mu) (d d' : Deferred) : Prop :=
  ∃ f c c', d.target = .fn (.func f) c ∧ d'.target = .fn (.func f) c' ∧ VRs μ c.toList c'.toList ∧ VRs μ d.args.toList d'.args.toList
theorem DR.le {μ μ' : Mu} {d d' : Deferred} (h : DR μ d d') (hl : Le μ μ') : DR μ' d d' := by
  obtain ⟨f, c, c', h1, h2, h3, h4⟩ := h
  exact ⟨f, c, c', h1, h2, h3.le hl, h4.le hl⟩
def okFn (P : Program) (f : FuncId) : Bool :=
  match P.funcs[f]? with
  | some fn => fn.body.isSome && !(fn.name == "runtime.NumGoroutine")
  | none => false
def aCall (P : Program) (ρ : Operand → Option Value) (f : Operand) (args : List Operand) : Option (FuncId × List Value × List Value × List Value) :=
  match ρ f, aArgs ρ args with
  | some (.func (.func fid) first cap), some l => bif okFn P fid then some (fid, first.toList, l, cap.toList) else none
  | _, _ => none
def isConst : Operand → Bool
  | .const _ => true
  | _ => false
def aMake (P : Program) (h : Hp) (sy : Bool) (t : TypeId) (l c : Value) : Option (Value × Hp) :=
  match P.underlying t, l, c with
  | some (.slice elem), .int _ (.ofNat len), .int _ (.ofNat cp) =>
    match szOf P elem, zeroOf P elem, P.info? elem with
    | some m, some z, some i =>
      bif Nat.ble len cp && Nat.ble cp 16777216 && Nat.ble i.bytes 1048576 && Nat.beq z.cells.toList.length m && !Nat.beq m 0 && Nat.blt h.next Tr.top then
        some (.slice (some ⟨h.next, 0, none⟩) len m, ⟨h.rows.put h.next (some ⟨(List.replicate cp z.cells.toList).flatten, false, .cells sy⟩), h.next + 1⟩)
      else none
    | _, _, _ => none
  | _, _, _ => none
def aBytes (P : Program) (h : Hp) (src dst : TypeId) : Value → Option (Value × Hp)
  | .string s =>
    match P.underlying src, P.underlying dst with
    | some _, some (.slice e) =>
      match P.underlying e with
      | some (.int .u8) =>
        bif Nat.blt h.next Tr.top then
          bif Nat.blt 0 s.data.toList.length then
            some (.slice (some ⟨h.next, 0, none⟩) s.data.toList.length 1, ⟨h.rows.put h.next (some ⟨s.data.toList.map fun b => .int .u8 b.toNat, false, .cells true⟩), h.next + 1⟩)
          else some (.slice (some ⟨h.next, 0, none⟩) 0 1, ⟨h.rows.put h.next (some ⟨[], true, .cells true⟩), h.next + 1⟩)
        else none
      | _ => none
    | _, _ => none
  | .slice (some ⟨r, k, none⟩) (len + 1) e =>
    match P.underlying src, P.underlying dst with
    | some (.slice _), some (.slice el) =>
      match P.underlying el, h.rows.find r with
      | some (.int .u8), some ⟨_ :: _, false, .cells _⟩ => bif Nat.beq src dst then some (.slice (some ⟨r, k, none⟩) (len + 1) e, h) else none
      | _, _ => none
    | _, _ => none
  | _ => none
def aCopy (P : Program) (h : Hp) (c : Call) (ρ : Operand → Option Value) : Option (Value × Hp) :=
  match c.args.toList, c.argTypes.toList with
  | [d, x], [dT, _] =>
    match P.underlying dT, ρ d, ρ x with
    | some (.slice elem), some (.slice (some ⟨r, k, none⟩) dl e), some xv =>
      match szOf P elem with
      | some m =>
        match srcCells h.rows m xv with
        | some (len, new, _) =>
          bif Nat.beq e m then
            match putCells h.rows r k (new.take (Nat.min len dl * m)) with
            | some rows => some (.int .i64 (.ofNat (Nat.min len dl)), ⟨rows, h.next⟩)
            | none => none
          else none
        | none => none
      | none => none
    | _, _, _ => none
  | _, _ => none
def asRes : Option (Option Value × Hp) → Option (Res × Hp)
  | some (some v, h) => some (.val v, h)
  | some (none, h) => some (.skip, h)
  | none => none
theorem asRes_inv {x : Option (Option Value × Hp)} {r : Res} {h : Hp} (he : asRes x = some (r, h)) : (∃ v, x = some (some v, h) ∧ r = .val v) ∨ (x = some (none, h) ∧ r = .skip) := by
  unfold asRes at he
  split at he <;> simp at he
  · obtain ⟨rfl, rfl⟩ := he; exact .inl ⟨_, rfl, rfl⟩
  · obtain ⟨rfl, rfl⟩ := he; exact .inr ⟨rfl, rfl⟩
def divV (P : Program) : Value := .iface P.rt.errorString (.string ⟨#[105, 110, 116, 101, 103, 101, 114, 32, 100, 105, 118, 105, 100, 101, 32, 98, 121, 32, 122, 101, 114, 111]⟩)
def div0 (P : Program) (ρ : Operand → Option Value) (x y : Operand) : Option Value :=
  match ρ x, ρ y with
  | some (.int k _), some (.int k' b) => bif decide (k = k') && decide (b = 0) then some (divV P) else none
  | _, _ => none
def evE (P : Program) (ρ : Operand → Option Value) (h : Hp) (o : Oper) : Option (Res × Hp) :=
  match o.op with
  | .store t a x =>
    match ρ a, ρ x with
    | some av, some xv => (match Nat.ble h.next Tr.top, aStore P h.rows t av xv with | true, some rows => some (.skip, ⟨rows, h.next⟩) | _, _ => none)
    | _, _ => none
  | .makeSlice t l c =>
    match ρ l, ρ c with
    | some lv, some cv => (match aMake P h (!(isConst l && isConst c)) t lv cv with | some (v, h') => some (.val v, h') | none => none)
    | _, _ => none
  | .convert src dst x => (match ρ x with | some xv => (match aBytes P h src dst xv with | some (v, h') => some (.val v, h') | none => none) | none => none)
  | .call c =>
    match c.callee with
    | .builtin .append => (match aAppend P h c ρ with | some (v, h') => some (.val v, h') | none => none)
    | .builtin .copy => (match aCopy P h c ρ with | some (v, h') => some (.val v, h') | none => none)
    | .builtin .recover => some (.recov, h)
    | .value f => (match aCall P ρ f c.args.toList with | some (fid, a, b, d) => some (.enter fid (a ++ b ++ d), h) | none => none)
    | _ => asRes (evX P ρ h o)
  | .defer c =>
    match c.callee with
    | .value f => (match aCall P ρ f c.args.toList with | some (fid, a, b, d) => some (.defer { target := .fn (.func fid) d.toArray, args := (a ++ b).toArray }, h) | none => none)
    | _ => none
  | .panic x => (match ρ x with | some (.iface t v) => some (.panic (.iface t v), h) | _ => none)
  | .binOp .quo _ x y _ => (match div0 P ρ x y with | some v => some (.panic v, h) | none => asRes (evX P ρ h o))
  | _ => asRes (evX P ρ h o)
def Out (μ : Mu) (w' : World) : Res → Result Next → Prop
  | .val v, r => ∃ v', r = .ok (.value v') w' ∧ VR μ v v'
  | .skip, r => r = .ok .skip w'
  | .enter f args, r => ∃ args' : Array Value, r = .ok (.enter f args') w' ∧ VRs μ args args'.toList
  | .defer d, r => ∃ d', r = .ok (.defer d') w' ∧ DR μ d d'
  | .recov, r => r = .ok .recover w'
  | .panic v, r => ∃ v', r = .halt (.panic v') w' ∧ VR μ v v'
section
variable {P : Program} {B : Base} {μ : Mu} {w : World} {ρ : Operand → Option Value} {ρ' : Operand → Value}
theorem aCall_sound (hρ : ∀ x v, ρ x = some v → VR μ v (ρ' x)) {f : Operand} {args : List Operand} {fid : FuncId} {a b d : List Value} (h : aCall P ρ f args = some (fid, a, b, d)) :
    ∃ x y : Array Value, ρ' f = .func (.func fid) x y ∧ VRs μ a x.toList ∧ VRs μ b (args.map ρ') ∧ VRs μ d y.toList ∧ okFn P fid = true := by
  unfold aCall at h
  split at h
  · rename_i fid' first cap l h1 h2
    cases hk : okFn P fid' with
    | false => simp [hk] at h
    | true =>
      simp [hk] at h
      obtain ⟨rfl, rfl, rfl, rfl⟩ := h
      have hv := hρ _ _ h1
      generalize ρ' f = y at *
      cases hv with
      | func _ _ _ x' y' hx hy h3 h4 => exact ⟨x', y', rfl, VRs.of_array hx h3, aArgs_sound hρ _ _ h2, VRs.of_array hy h4, hk⟩
  · simp at h
theorem run_callFunc {fid : FuncId} (hk : okFn P fid = true) (args : Array Value) : (callFunc fid args).run P w = .ok (.enter fid args) w := by
  unfold okFn at hk
  cases hf : P.funcs[fid]? with
  | none => simp [hf] at hk
  | some fn =>
    simp only [hf, Bool.and_eq_true, Bool.not_eq_true'] at hk
    have hn : fn.body.isNone = false := by cases hb : fn.body <;> simp_all
    simp only [callFunc, program, Sem.run_bind, Sem.run, Result.andThen_ok, hf, hk.2, hn, Bool.false_eq_true, if_false, Sem.run_pure]
theorem aMake_sound {h h' : Hp} {sy : Bool} (hw : WR B μ h.rows.find h.next w) {t : TypeId} {l c v : Value} (hm : aMake P h sy t l c = some (v, h')) :
    ∃ μ' w' v', (Instr.makeSlice t l c).run P w = .ok v' w' ∧ VR μ' v v' ∧ Le μ μ' ∧ WR B μ' h'.rows.find h'.next w' ∧ Keep μ h.rows.find w μ' h'.rows.find w' := by
  unfold aMake at hm
  split at hm
  · rename_i elem k1 len k2 cp hd
    split at hm
    · rename_i m z i hz1 hz2 hi
      cases hcond : (Nat.ble len cp && Nat.ble cp 16777216 && Nat.ble i.bytes 1048576 && Nat.beq z.cells.toList.length m && !Nat.beq m 0 && Nat.blt h.next Tr.top) with
      | false => simp only [hcond, cond_false] at hm; simp at hm
      | true =>
        simp only [hcond, cond_true, Option.some.injEq, Prod.mk.injEq] at hm
        obtain ⟨rfl, rfl⟩ := hm
        simp only [Bool.and_eq_true] at hcond
        have c1 := Nat.le_of_ble_eq_true hcond.1.1.1.1.1
        have c2 := Nat.le_of_ble_eq_true hcond.1.1.1.1.2
        have c3 := Nat.le_of_ble_eq_true hcond.1.1.1.2
        have c4 := Nat.eq_of_beq_eq_true hcond.1.1.2
        have c5 : m ≠ 0 := by intro e; subst e; simp at hcond
        have c6 : h.next < Tr.top := Nat.le_of_ble_eq_true hcond.2
        have hq : μ h.next = none := hw.fresh _ (Nat.le_refl _) c6
        obtain ⟨zr, zv⟩ := zeroOf_spec (P := P) (μ := μ) (w := w) hz2
        have hzs : z.cells.size = m := by simpa using c4
        have wrap : ∀ n : Nat, n ≤ 16777216 → IntKind.i64.wrap (Int.ofNat n) = n := by
          intro n hn
          unfold IntKind.wrap
          have e1 : (2 ^ IntKind.i64.bits : Int) = 18446744073709551616 := by decide
          have e2 : (2 ^ (IntKind.i64.bits - 1) : Int) = 9223372036854775808 := by decide
          rw [e1, e2]
          have : (Int.ofNat n : Int) = (n : Int) := rfl
          simp only [this]
          rw [Int.emod_eq_of_lt (by omega) (by omega)]
          rw [if_neg (by simp; intro _; omega)]
        have hsize : ((Array.range (cp * m)).map (fun i => z.cells[i % z.cells.size]!)).size = cp * m := by simp
        have hal := WR.alloc hw (q := h.next) (n' := h.next + 1) c6 hq (fun h0 => by have := (hw.hole _ h0).2; omega) (by omega) (by omega) (sy := sy) (cs := (List.replicate cp z.cells.toList).flatten) (c := (Array.range (cp * m)).map (fun i => z.cells[i % z.cells.size]!)) elem (0, 0) (.inl rfl)
          (by
            rw [rep_cells z.cells m hzs c5 cp, List.take_of_length_le (Nat.le_refl _)]
            exact rep_vrs zv.cells cp)
          (by rw [hsize]; simp [hzs]) (fun e0 => by have := congrArg List.length e0; rw [hsize]; simpa [hzs] using this) (World.alloc w (.cells ((Array.range (cp * m)).map (fun i => z.cells[i % z.cells.size]!)) elem)) rfl rfl rfl rfl
        refine ⟨setM μ h.next (w.heap.size, 0, ((Array.range (cp * m)).map (fun i => z.cells[i % z.cells.size]!)).size), World.alloc w (.cells ((Array.range (cp * m)).map (fun i => z.cells[i % z.cells.size]!)) elem), .slice (some ⟨w.heap.size, 0, none⟩) len cp, ?_, ?_, le_setM hq _, ?_, ?_⟩
        · have hb : ∀ n : Nat, n ≤ 16777216 → ¬ ((i.bytes : Int) * (n : Int) > 2 ^ 48) := by
            intro n hn
            have : i.bytes * n ≤ 1048576 * 16777216 := Nat.mul_le_mul c3 hn
            have h2 : ((i.bytes * n : Nat) : Int) = (i.bytes : Int) * (n : Int) := by push_cast; rfl
            have e : (2 : Int) ^ 48 = 281474976710656 := by decide
            rw [e, ← h2]; omega
          have b1 := hb cp c2
          have b2 := hb len (by omega)
          simp only [Instr.makeSlice, Sem.run_bind, run_underlying hd, Result.andThen_ok, asInt, asIntOf, Sem.run_pure, typeInfo, program, Sem.run, hi]
          rw [wrap len (by omega), wrap cp (by omega)]
          rw [if_neg (by
            simp only [Bool.or_eq_true, decide_eq_true_eq, not_or]
            refine ⟨⟨⟨by show ¬ ((cp : Int) < 0); omega, by simpa using b1⟩, by omega⟩, by omega⟩)]
          simp only [Sem.run_bind, run_askRoom, Result.andThen_ok, szOf_run hz1]
          have et : ∀ n : Nat, ((n : Int)).toNat = n := fun n => Int.toNat_natCast n
          simp only [et]
          by_cases h0 : cp * m = 0
          · rw [if_pos h0]
            simp only [Sem.run_pure, Result.andThen_ok, Sem.run_bind]
            have e0 : (Array.range (cp * m)).map (fun i => (#[] : Array Value)[i % (#[] : Array Value).size]!) = (Array.range (cp * m)).map (fun i => z.cells[i % z.cells.size]!) := by
              rw [h0]; simp
            rw [e0]
            simp [run_row]
          · rw [if_neg h0]
            simp only [Sem.run_bind, zr, Result.andThen_ok, Sem.run_pure, run_row]
        · have := VR.slice (μ := setM μ h.next (w.heap.size, 0, ((Array.range (cp * m)).map (fun i => z.cells[i % z.cells.size]!)).size)) h.next 0 len m w.heap.size 0 ((Array.range (cp * m)).map (fun i => z.cells[i % z.cells.size]!)).size cp (by simp [setM]) c1 (by rw [hsize]; omega)
          simpa using this
        · rw [find_put_fun _ _ _ c6]; exact hal.1
        · rw [find_put_fun _ _ _ c6]; exact hal.2
    · simp at hm
  · simp at hm
theorem srcCells_first {n : Nat} {rows : Tr Row} (hw : WR B μ rows.find n w) {m len : Nat} {x x' : Value} {l : List Value} {sy : Bool} (hx : VR μ x x') (h : srcCells rows m x = some (len, l, sy)) {j : Nat} (hj : j ≤ len) :
    (Builtin.lenOf x').run P w = .ok len w ∧ ∃ l' : List Value, (Builtin.firstCells m j x').run P w = .ok l'.toArray w ∧ VRs μ (l.take (j * m)) l' := by
  obtain ⟨h1, _⟩ := srcCells_sound (P := P) hw hx h
  refine ⟨h1, ?_⟩
  have none0 : ∀ j, (Builtin.firstCells m j (.slice none 0 0)).run P w = .ok [].toArray w := by intro j; simp [Builtin.firstCells]
  unfold srcCells at h
  split at h
  · simp at h; obtain ⟨rfl, rfl, rfl⟩ := h
    cases hx
    exact ⟨[], none0 _, by simp [VRs.nil]⟩
  · rename_i r k len' c
    split at h
    · rename_i cells ro s hr
      split at h
      · rename_i l0 hc
        simp only [Option.some.injEq, Prod.mk.injEq] at h
        obtain ⟨rfl, rfl, rfl⟩ := h
        obtain ⟨k1, k2, k3⟩ := cut_spec hc
        by_cases h0 : j * m = 0
        · refine ⟨[], ?_, by rw [h0]; simp [VRs.nil]⟩
          have ex : ∃ a cp, x' = .slice a len' cp := by cases hx <;> exact ⟨_, _, rfl⟩
          obtain ⟨a, cp, rfl⟩ := ex
          cases a with
          | some a => simp only [Builtin.firstCells]; rw [h0]; rfl
          | none => simp [Builtin.firstCells]
        · have hjp : 0 < j := by
            rcases Nat.eq_zero_or_pos j with h | h
            · subst h; simp at h0
            · exact h
          have hjm : j * m ≤ len' * m := Nat.mul_le_mul hj (Nat.le_refl _)
          obtain ⟨b, o, s, c', rfl, hm, hn, hcap⟩ := slice_ptr hx (by omega)
          obtain ⟨c0, e0, fr, g1, g2, g3, g4⟩ := row_cells (cells := cells) hw hr (by omega) (k := k) (m := j * m) (by omega) hm
          refine ⟨_, by simp only [Builtin.firstCells]; exact run_loadCells_blk g1 g3, ?_⟩
          rw [k1, List.take_take, Nat.min_eq_left hjm]; exact g4
      · simp at h
    · simp at h
    · split at h
      · simp at h; obtain ⟨rfl, rfl, rfl⟩ := h
        have hj0 : j = 0 := by omega
        subst hj0
        refine ⟨[], ?_, by simp [VRs.nil]⟩
        have ex : ∃ a cp, x' = .slice a 0 cp := by cases hx <;> exact ⟨_, _, rfl⟩
        obtain ⟨a, cp, rfl⟩ := ex
        cases a <;> simp [Builtin.firstCells, loadCells, loadCellsFrom]
      · simp at h
  · rename_i r k len' c
    split at h
    · rename_i l0 hc
      simp only [Option.some.injEq, Prod.mk.injEq] at h
      obtain ⟨rfl, rfl, rfl⟩ := h
      obtain ⟨k1, k2, k3⟩ := cut_spec hc
      by_cases h0 : j * m = 0
      · refine ⟨[], ?_, by rw [h0]; simp [VRs.nil]⟩
        have ex : ∃ a cp, x' = .slice a len' cp := by cases hx <;> exact ⟨_, _, rfl⟩
        obtain ⟨a, cp, rfl⟩ := ex
        cases a with
        | some a => simp only [Builtin.firstCells]; rw [h0]; rfl
        | none => simp [Builtin.firstCells]
      · have hjp : 0 < j := by
          rcases Nat.eq_zero_or_pos j with h | h
          · subst h; simp at h0
          · exact h
        have hjm : j * m ≤ len' * m := Nat.mul_le_mul hj (Nat.le_refl _)
        obtain ⟨i, b, o, s, c', rfl, hm, hn, hcap⟩ := gslice_ptr hx (by omega)
        obtain ⟨c0, e0, fr, g1, g2, g3, g4⟩ := g_cells hw (k := k) (m := j * m) (by omega) hm
        refine ⟨_, by simp only [Builtin.firstCells]; exact run_loadCells_blk g1 g3, ?_⟩
        rw [k1, List.take_take, Nat.min_eq_left hjm]; exact g4
    · simp at h
  · rename_i s
    cases hb : Nat.beq m 1 with
    | false => simp [hb] at h
    | true =>
      simp [hb] at h; obtain ⟨rfl, rfl, rfl⟩ := h
      have := Nat.eq_of_beq_eq_true hb
      subst this
      cases hx
      refine ⟨(s.data.toList.take j).map fun b => .int .u8 b.toNat, ?_, ?_⟩
      · simp only [Builtin.firstCells, Sem.run_pure]
        congr 1
        apply Array.ext'
        simp [ByteArray.data_extract]
      · rw [Nat.mul_one, ← List.map_take]
        refine ⟨rfl, fun i v v' q1 q2 => ?_⟩
        rw [q1] at q2
        simp only [Option.some.injEq] at q2
        subst q2
        obtain ⟨b, _, rfl⟩ := List.mem_map.1 (List.mem_of_getElem? q1)
        exact .int _ _
  · simp at h
theorem aCopy_sound {h h' : Hp} (hw : WR B μ h.rows.find h.next w) {c : Call} (hρ : ∀ x v, ρ x = some v → VR μ v (ρ' x)) {v : Value} (hm : aCopy P h c ρ = some (v, h')) (ty : TypeId) :
    ∃ w' v', (Builtin.copy_ c.argTypes ty (c.args.map ρ')).run P w = .ok v' w' ∧ VR μ v v' ∧ WR B μ h'.rows.find h'.next w' ∧ Keep μ h.rows.find w μ h'.rows.find w' := by
  unfold aCopy at hm
  split at hm
  · rename_i d x dT xT e1 e2
    have ea : c.args.map ρ' = #[ρ' d, ρ' x] := by
      have : c.args = #[d, x] := by apply Array.ext'; simpa using e1
      rw [this]; simp
    have et : c.argTypes = #[dT, xT] := by apply Array.ext'; simpa using e2
    rw [ea, et]
    split at hm
    · rename_i elem r k dl e xv hd hdv hxv
      split at hm
      · rename_i m hz
        split at hm
        · rename_i len new sy hsc
          cases hb : Nat.beq e m with
          | false => simp [hb] at hm
          | true =>
            simp only [hb, cond_true] at hm
            have := Nat.eq_of_beq_eq_true hb
            subst this
            split at hm
            · rename_i rows hp
              simp only [Option.some.injEq, Prod.mk.injEq] at hm
              obtain ⟨rfl, rfl⟩ := hm
              have hx := hρ x xv hxv
              have hdd := hρ d _ hdv
              obtain ⟨hl, l', hf, hv⟩ := srcCells_first (P := P) hw hx hsc (j := Nat.min len dl) (Nat.min_le_left _ _)
              have hlen2 : ∃ len' c0, srcCells h.rows e xv = some (len', new, c0) := ⟨_, _, hsc⟩
              have pre : ∀ (a : Option Addr) (cp : Nat), (Builtin.copy_ #[dT, xT] ty #[.slice a dl cp, ρ' x]).run P w =
                  ((do (if let some a := a then storeCells a l' else pure ()); pure (goInt (Nat.min len dl))) : Sem Value).run P w := by
                intro a cp
                simp only [Builtin.copy_, List.getElem?_toArray, List.getElem?_cons_zero, List.getElem?_cons_succ, Sem.run_bind, run_underlying hd, Result.andThen_ok, hl, szOf_run hz, hf, Sem.run_pure]
                cases a <;> simp
              generalize ρ' d = dv at hdd
              cases hdd with
              | slice _ _ _ _ b o s c' hmu hn hc =>
                obtain ⟨w', q1, q2, q3⟩ := putCells_sound (P := P) hw hv hp hmu
                refine ⟨w', _, ?_, .int _ _, q2, q3⟩
                rw [pre]
                simp only [Sem.run_bind, q1, Result.andThen_ok, Sem.run_pure]
                rfl
              | slice0 _ _ _ a =>
                have h0 : Nat.min len 0 = 0 := Nat.min_zero _
                rw [h0, Nat.zero_mul, List.take_zero] at hp hv
                have hl' : l' = [] := List.eq_nil_of_length_eq_zero (by have := hv.1; simpa using this.symm)
                subst hl'
                have hrows : ∀ z, rows.find z = h.rows.find z := by
                  intro z
                  unfold putCells at hp
                  split at hp
                  · rename_i cells sy hr
                    cases hbb : (Nat.ble (k + ([] : List Value).length) cells.length && allOne [] && Nat.blt r Tr.top) with
                    | false => simp only [hbb, cond_false] at hp; simp at hp
                    | true =>
                      simp only [hbb, cond_true, wrK, Option.some.injEq] at hp
                      simp only [Bool.and_eq_true] at hbb
                      have b3 : r < Tr.top := Nat.le_of_ble_eq_true hbb.2
                      rw [← hp, Tr.find_put _ _ _ _ b3]
                      split
                      · rename_i e; subst e; exact hr.symm
                      · rfl
                  · simp at hp
                have hrows' : rows.find = h.rows.find := funext hrows
                refine ⟨w, .int .i64 (.ofNat 0), ?_, by rw [h0]; exact .int _ _, by simp only [hrows']; exact hw, by simp only [hrows']; exact Keep.refl _ _ _⟩
                rw [pre, h0]
                cases a <;> rfl
            · simp at hm
        · simp at hm
      · simp at hm
    · simp at hm
  · simp at hm
theorem freeze_end {w : World} {b s lo hi : Nat} {c : Array Value} {e : TypeId} (h : w.heap[b]? = some (.cells c e (lo, hi))) (hs : c.size = s) (hc : clear (lo, hi) s) :
    ∃ lo' hi', clear (lo', hi') s ∧ (w.freeze ⟨b, s, none⟩ 1).heap[b]? = some (.cells c e (lo', hi')) ∧ Oth b w (w.freeze ⟨b, s, none⟩ 1) := by
  refine ⟨if lo == hi then s else min lo s, if lo == hi then s + 1 else max hi (s + 1), ?_, ?_, ?_⟩
  · have _ := hs
    unfold clear at *
    by_cases hl : lo = hi
    · simp [hl]
    · right
      simp only [beq_iff_eq, hl, if_false]
      rcases hc with hc | hc
      · exact absurd hc hl
      · simp only at hc; omega
  · simp only [World.freeze]
    rw [if_neg (by decide)]
    simp only [Array.getElem?_modify, h, if_true, Option.map_some]
    congr 2
    split <;> rfl
  · simp only [World.freeze]
    rw [if_neg (by decide)]
    exact ⟨rfl, rfl, rfl, by simp, fun k hk => by
      simp only [Array.getElem?_modify]
      rw [if_neg (fun e => hk e.symm)]⟩
theorem aBytes_sound {h h' : Hp} (hw : WR B μ h.rows.find h.next w) {src dst : TypeId} {x x' v : Value} (hx : VR μ x x') (hm : aBytes P h src dst x = some (v, h')) :
    ∃ μ' w' v', (convert src dst x').run P w = .ok v' w' ∧ VR μ' v v' ∧ Le μ μ' ∧ WR B μ' h'.rows.find h'.next w' ∧ Keep μ h.rows.find w μ' h'.rows.find w' := by
  unfold aBytes at hm
  split at hm
  · rename_i s
    cases hx
    split at hm
    · rename_i d0 e hd0 hd
      split at hm
      · rename_i he
        cases hcond : Nat.blt h.next Tr.top with
        | false => simp only [hcond, cond_false] at hm; simp at hm
        | true =>
          simp only [hcond, cond_true] at hm
          have c6 : h.next < Tr.top := Nat.le_of_ble_eq_true hcond
          have hq : μ h.next = none := hw.fresh _ (Nat.le_refl _) c6
          have hqf : (Question.appendCap s.size 0 e).forced = false := rfl
          generalize hcap : (Question.appendCap s.size 0 e).cut (w.tape w.drawn (Question.appendCap s.size 0 e)) = cap
          have hle : s.size ≤ cap := by rw [← hcap]; simp [Question.cut]
          have hch : (choose (.appendCap s.size 0 e)).run P w = .ok cap { w with drawn := w.drawn + 1 } := by
            simp only [choose, Sem.run, hqf, Bool.false_eq_true, if_false, hcap]
          have hrun : (convert src dst (.string s)).run P w = (Conv.stringToBytes e s).run P w := by
            cases d0 <;> simp [convert, run_underlying hd0, run_underlying hd, run_underlying he]
          have hsz : (s.data.map (fun b => Value.int .u8 b.toNat) ++ Array.replicate (cap - s.size) (Value.int .u8 0) : Array Value).size = cap := by
            simp; omega
          have hfull : (convert src dst (.string s)).run P w = .ok (.slice (some ⟨w.heap.size, 0, none⟩) s.size cap) (World.alloc { w with drawn := w.drawn + 1 } (.cells (s.data.map (fun b => Value.int .u8 b.toNat) ++ Array.replicate (cap - s.size) (Value.int .u8 0)) e (cap, cap + 1))) := by
            rw [hrun]
            simp only [Conv.stringToBytes, Sem.run_bind, hch, Result.andThen_ok, run_row]
            have hshape : ∀ (w1 : World) (b : Nat) (cs : Array Value) (t : TypeId) (fr : Nat × Nat), w1.heap[b]? = some (.cells cs t fr) → (markStringish ⟨b, 0, none⟩).run P w1 = .ok () (w1.freeze ⟨b, cs.size, none⟩ 1) := by
              intro w1 b cs t fr hb
              simp [markStringish, shape, freeze, Sem.run, World.shape?, hb]
            rw [hshape _ w.heap.size (s.data.map (fun b => Value.int .u8 b.toNat) ++ Array.replicate (cap - s.size) (Value.int .u8 0)) e (0, 0) (by simp [World.alloc])]
            simp only [Result.andThen_ok, Sem.run_pure]
            congr 1
            rw [hsz]
            simp only [World.freeze, World.alloc]
            rw [if_neg (by decide)]
            congr 1
            apply Array.ext_getElem?
            intro i
            rw [Array.getElem?_modify]
            by_cases hi : w.heap.size = i
            · subst hi
              rw [if_pos rfl]
              simp only [Array.getElem?_push_size, Option.map_some]
              rfl
            · rw [if_neg hi]
              simp only [Array.getElem?_push]
              rw [if_neg (fun e => hi e.symm), if_neg (fun e => hi e.symm)]
          cases hne : Nat.blt 0 s.data.toList.length with
          | false =>
            simp only [hne, cond_false, Option.some.injEq, Prod.mk.injEq] at hm
            obtain ⟨rfl, rfl⟩ := hm
            have h0 : s.size = 0 := by
              rcases Nat.eq_zero_or_pos s.data.toList.length with h1 | h1
              · simpa using h1
              · have : Nat.blt 0 s.data.toList.length = true := Nat.ble_eq_true_of_le h1
                rw [hne] at this; simp at this
            have hal := WR.allocVoid hw (q := h.next) (n' := h.next + 1) c6 hq (fun h0 => by have := (hw.hole _ h0).2; omega) (by omega) (by omega) (sy := true)
              (c := s.data.map (fun b => Value.int .u8 b.toNat) ++ Array.replicate (cap - s.size) (Value.int .u8 0)) e (cap, cap + 1)
              (World.alloc { w with drawn := w.drawn + 1 } (.cells (s.data.map (fun b => Value.int .u8 b.toNat) ++ Array.replicate (cap - s.size) (Value.int .u8 0)) e (cap, cap + 1))) rfl rfl rfl rfl
            refine ⟨setM μ h.next (w.heap.size, 0, (s.data.map (fun b => Value.int .u8 b.toNat) ++ Array.replicate (cap - s.size) (Value.int .u8 0)).size), _, _, hfull, ?_, le_setM hq _, ?_, ?_⟩
            · rw [show Value.slice (some ⟨w.heap.size, 0, none⟩) s.size cap = Value.slice (some ⟨w.heap.size, 0, none⟩) 0 cap by rw [h0]]
              have := VR.slice (μ := setM μ h.next (w.heap.size, 0, (s.data.map (fun b => Value.int .u8 b.toNat) ++ Array.replicate (cap - s.size) (Value.int .u8 0)).size)) h.next 0 0 1 w.heap.size 0
                (s.data.map (fun b => Value.int .u8 b.toNat) ++ Array.replicate (cap - s.size) (Value.int .u8 0) : Array Value).size cap (by simp [setM]) (Nat.zero_le _) (by rw [hsz]; omega)
              simpa using this
            · rw [find_put_fun _ _ _ c6]; exact hal.1
            · rw [find_put_fun _ _ _ c6]; exact hal.2
          | true =>
          simp only [hne, cond_true, Option.some.injEq, Prod.mk.injEq] at hm
          obtain ⟨rfl, rfl⟩ := hm
          have c7 : 0 < s.data.toList.length := Nat.le_of_ble_eq_true hne
          have hlen : (s.data.toList.map (fun b => Value.int .u8 (b.toNat : Int))).length = s.size := by simp
          have hal := WR.alloc hw (q := h.next) (n' := h.next + 1) c6 hq (fun h0 => by have := (hw.hole _ h0).2; omega) (by omega) (by omega) (sy := true) (cs := s.data.toList.map fun b => .int .u8 b.toNat)
            (c := s.data.map (fun b => Value.int .u8 b.toNat) ++ Array.replicate (cap - s.size) (Value.int .u8 0)) e (cap, cap + 1)
            (.inr (by rw [hsz]; exact Nat.le_refl _))
            (by
              have e1 : (s.data.map (fun b => Value.int .u8 (b.toNat : Int)) ++ Array.replicate (cap - s.size) (Value.int .u8 0)).toList.take (s.data.toList.map (fun b => Value.int .u8 (b.toNat : Int))).length = s.data.toList.map fun b => .int .u8 b.toNat := by
                simp only [Array.toList_append, Array.toList_map]
                rw [List.take_append_of_le_length (Nat.le_refl _), List.take_of_length_le (Nat.le_refl _)]
              rw [e1]
              refine ⟨rfl, fun i v v' h1 h2 => ?_⟩
              rw [h1] at h2; simp at h2; subst h2
              simp at h1
              obtain ⟨b, _, rfl⟩ := h1
              exact .int _ _)
            (by rw [hsz, hlen]; exact hle) (fun e0 => by rw [e0] at hlen; simp at c7 hlen; omega)
            ((World.alloc { w with drawn := w.drawn + 1 } (.cells (s.data.map (fun b => Value.int .u8 b.toNat) ++ Array.replicate (cap - s.size) (Value.int .u8 0)) e (cap, cap + 1)))) rfl rfl rfl rfl
          refine ⟨setM μ h.next (w.heap.size, 0, (s.data.map (fun b => Value.int .u8 b.toNat) ++ Array.replicate (cap - s.size) (Value.int .u8 0)).size), World.alloc { w with drawn := w.drawn + 1 } (.cells (s.data.map (fun b => Value.int .u8 b.toNat) ++ Array.replicate (cap - s.size) (Value.int .u8 0)) e (cap, cap + 1)),
            .slice (some ⟨w.heap.size, 0, none⟩) s.size cap, ?_, ?_, le_setM hq _, ?_, ?_⟩
          · exact hfull
          · have := VR.slice (μ := setM μ h.next (w.heap.size, 0, (s.data.map (fun b => Value.int .u8 b.toNat) ++ Array.replicate (cap - s.size) (Value.int .u8 0)).size)) h.next 0 s.size 1 w.heap.size 0
              (s.data.map (fun b => Value.int .u8 b.toNat) ++ Array.replicate (cap - s.size) (Value.int .u8 0) : Array Value).size cap (by simp [setM]) hle (by rw [hsz]; omega)
            simpa using this
          · rw [find_put_fun _ _ _ c6]; exact hal.1
          · rw [find_put_fun _ _ _ c6]; exact hal.2
      · simp at hm
    · simp at hm
  · rename_i r k len e
    split at hm
    · rename_i e0 el hs hd
      split at hm
      · rename_i c00 cells0 sy he hr
        obtain ⟨cells, hcells⟩ : ∃ cells, cells = c00 :: cells0 := ⟨_, rfl⟩
        rw [← hcells] at hr
        have hne : 0 < cells.length := by rw [hcells]; simp
        cases hcond : Nat.beq src dst with
        | false => simp [hcond] at hm
        | true =>
          simp only [hcond, cond_true, Option.some.injEq, Prod.mk.injEq] at hm
          obtain ⟨rfl, rfl⟩ := hm
          have hsd := Nat.eq_of_beq_eq_true hcond
          obtain ⟨b, o, s, c', rfl, hmu, hn, hcap⟩ := slice_ptr hx (by omega)
          obtain ⟨b', o', s', c, e1, lo, hi, g1, g2, g3, g4, g5, g6, g7⟩ := hw.rows r _ hr (void_cells hne)
          rw [hmu] at g1
          simp only [Option.some.injEq, Prod.mk.injEq] at g1
          obtain ⟨rfl, rfl, rfl⟩ := g1
          obtain ⟨lo', hi', hcl, hblk, hoth⟩ := freeze_end (s := s) g2 g3 (g6 rfl).2
          have hrun : (convert src dst (.slice (some ⟨b, o + k, none⟩) (len + 1) c')).run P w = .ok (.slice (some ⟨b, o + k, none⟩) (len + 1) c') (w.freeze ⟨b, s, none⟩ 1) := by
            subst hsd
            rw [hs] at hd
            cases hd
            have hmk : (markStringish ⟨b, o + k, none⟩).run P w = .ok () (w.freeze ⟨b, s, none⟩ 1) := by
              simp [markStringish, shape, freeze, Sem.run, World.shape?, g2, g3]
            simp only [convert, Sem.run_bind, run_underlying hs, run_underlying he, Result.andThen_ok, beq_self_eq_true, hmk, Sem.run_pure]
          have key := WR.rewrite (q := r) (n' := h.next) hw hr (void_cells hne) rfl hmu (Nat.le_refl _) (Le.refl μ) hw.fresh (fun z hz => (hw.hole z hz).1) hoth (row' := ⟨cells, false, .cells sy⟩) (o' := o)
            ⟨b, o, s, c, e1, lo', hi', hmu, hblk, g3, g4, g5, fun _ => ⟨(g6 rfl).1, hcl⟩, by simp⟩ rfl (fun h0 => by rw [void_cells hne] at h0; simp at h0) hmu (fun x _ _ y hy _ => hy) (fun _ _ => rfl)
          have hF : setF (setF h.rows.find r none) r (some ⟨cells, false, .cells sy⟩) = h.rows.find := by
            rw [setF_setF]; funext z; unfold setF; split
            · rename_i e; subst e; exact hr.symm
            · rfl
          rw [hF] at key
          exact ⟨μ, _, _, hrun, hx, Le.refl _, key.1, key.2⟩
      · simp at hm
    · simp at hm
  · simp at hm
theorem evE_sound {h h' : Hp} (hw : WR B μ h.rows.find h.next w) {o : Oper} {r : Res} (hρ : ∀ x v, ρ x = some v → VR μ v (ρ' x)) (he : evE P ρ h o = some (r, h')) :
    ∃ μ' w', Le μ μ' ∧ WR B μ' h'.rows.find h'.next w' ∧ Keep μ h.rows.find w μ' h'.rows.find w' ∧ Out μ' w' r ((execOp ρ' o).run P w) := by
  have other : asRes (evX P ρ h o) = some (r, h') → ∃ μ' w', Le μ μ' ∧ WR B μ' h'.rows.find h'.next w' ∧ Keep μ h.rows.find w μ' h'.rows.find w' ∧ Out μ' w' r ((execOp ρ' o).run P w) := by
    intro he
    rcases asRes_inv he with ⟨v, hx, rfl⟩ | ⟨hx, rfl⟩
    · exact evX_sound hw hρ hx
    · exact evX_sound hw hρ hx
  unfold evE at he
  split at he
  · rename_i t a x ho
    split at he
    · rename_i av xv ha hx
      split at he
      · rename_i rows hnt hs
        simp at he; obtain ⟨rfl, rfl⟩ := he
        obtain ⟨μ', w', h1, h0, h2, h3⟩ := aStore_sound (P := P) hw (Nat.le_of_ble_eq_true hnt) (hρ _ _ ha) (hρ _ _ hx) hs
        refine ⟨μ', w', h0, h2, h3, ?_⟩
        simp only [Out, execOp, ho, Sem.run_bind, h1, Result.andThen_ok, Sem.run_pure]
      · simp at he
    · simp at he
  · rename_i t l c ho
    split at he
    · rename_i lv cv hl hc
      split at he
      · rename_i v h2 hm
        simp at he; obtain ⟨rfl, rfl⟩ := he
        have el : ρ' l = lv := by
          have hv := hρ _ _ hl
          have : ∃ k n, lv = .int k n := by
            unfold aMake at hm; split at hm
            · exact ⟨_, _, rfl⟩
            · simp at hm
          obtain ⟨k, n, rfl⟩ := this
          generalize ρ' l = y at *; cases hv; rfl
        have ec : ρ' c = cv := by
          have hv := hρ _ _ hc
          have : ∃ k n, cv = .int k n := by
            unfold aMake at hm; split at hm
            · exact ⟨_, _, rfl⟩
            · simp at hm
          obtain ⟨k, n, rfl⟩ := this
          generalize ρ' c = y at *; cases hv; rfl
        obtain ⟨μ', w', v', h1, h2, h3, h4, h5⟩ := aMake_sound hw hm
        refine ⟨μ', w', h3, h4, h5, v', ?_, h2⟩
        simp only [execOp, ho, el, ec, Sem.run_bind, h1, Result.andThen_ok, Sem.run_pure]
      · simp at he
    · simp at he
  · rename_i src dst x ho
    split at he
    · rename_i xv hx
      split at he
      · rename_i v h2 hm
        simp at he; obtain ⟨rfl, rfl⟩ := he
        obtain ⟨μ', w', v', h1, h2, h3, h4, h5⟩ := aBytes_sound (P := P) hw (hρ _ _ hx) hm
        refine ⟨μ', w', h3, h4, h5, v', ?_, h2⟩
        simp only [execOp, ho, Sem.run_bind, h1, Result.andThen_ok, Sem.run_pure]
      · simp at he
    · simp at he
  · rename_i c ho
    split at he
    · rename_i hc
      split at he
      · rename_i v h2 hm
        simp at he; obtain ⟨rfl, rfl⟩ := he
        obtain ⟨μ', w', v', h1, h2, h3, h4, h5⟩ := aAppend_sound (P := P) hw hρ hm o.type
        refine ⟨μ', w', h3, h4, h5, v', ?_, h2⟩
        simp only [execOp, ho, resolve, hc, Sem.run_bind, Sem.run_pure, Result.andThen_ok, invoke, builtin, h1]
      · simp at he
    · rename_i hc
      split at he
      · rename_i v h2 hm
        simp at he; obtain ⟨rfl, rfl⟩ := he
        obtain ⟨w', v', h1, h2, h3, h4⟩ := aCopy_sound (P := P) hw hρ hm o.type
        refine ⟨μ, w', Le.refl _, h3, h4, v', ?_, h2⟩
        simp only [execOp, ho, resolve, hc, Sem.run_bind, Sem.run_pure, Result.andThen_ok, invoke, builtin, h1]
      · simp at he
    · rename_i hc
      simp at he; obtain ⟨rfl, rfl⟩ := he
      refine ⟨μ, w, Le.refl _, hw, Keep.refl _ _ _, ?_⟩
      simp only [Out, execOp, ho, resolve, hc, Sem.run_bind, Sem.run_pure, Result.andThen_ok, invoke, builtin]
    · rename_i f hc
      split at he
      · rename_i fid a b d hm
        simp at he; obtain ⟨rfl, rfl⟩ := he
        obtain ⟨x, y, e1, h1, h2, h3, h4⟩ := aCall_sound hρ hm
        refine ⟨μ, w, Le.refl _, hw, Keep.refl _ _ _, x ++ c.args.map ρ' ++ y, ?_, ?_⟩
        · simp only [execOp, ho, resolve, hc, e1, Deferred.ofValue, Sem.run_bind, Sem.run_pure, Result.andThen_ok, invoke, run_callFunc h4]
        · have := (h1.append h2).append h3
          simpa using this
      · simp at he
    · exact other he
  · rename_i c ho
    split at he
    · rename_i f hc
      split at he
      · rename_i fid a b d hm
        simp at he; obtain ⟨rfl, rfl⟩ := he
        obtain ⟨x, y, e1, h1, h2, h3, h4⟩ := aCall_sound hρ hm
        refine ⟨μ, w, Le.refl _, hw, Keep.refl _ _ _, { target := .fn (.func fid) y, args := x ++ c.args.map ρ' }, ?_, ?_⟩
        · simp only [execOp, ho, resolve, hc, e1, Deferred.ofValue, Sem.run_bind, Sem.run_pure, Result.andThen_ok]
        · exact ⟨fid, _, _, rfl, rfl, by simpa using h3, by simpa using h1.append h2⟩
      · simp at he
    · simp at he
  · rename_i x ho
    split at he
    · rename_i t v hx
      simp at he; obtain ⟨rfl, rfl⟩ := he
      have hv := hρ _ _ hx
      refine ⟨μ, w, Le.refl _, hw, Keep.refl _ _ _, ρ' x, ?_, hv⟩
      generalize hy : ρ' x = y at *
      cases hv
      simp [execOp, ho, hy, Instr.panic, goPanic, Sem.run]
    · simp at he
  · rename_i t x y t' ho
    split at he
    · rename_i v hd
      simp at he; obtain ⟨rfl, rfl⟩ := he
      unfold div0 at hd
      split at hd
      · rename_i k a k' b hx hy
        cases hk : (decide (k = k') && decide (b = 0)) with
        | false => rw [hk] at hd; simp at hd
        | true =>
          rw [hk] at hd
          simp only [cond_true, Option.some.injEq] at hd
          simp only [Bool.and_eq_true, decide_eq_true_eq] at hk
          obtain ⟨rfl, rfl⟩ := hk
          subst hd
          have ex : ρ' x = .int k a := by have hv := hρ _ _ hx; generalize ρ' x = z at *; cases hv; rfl
          have ey : ρ' y = .int k 0 := by have hv := hρ _ _ hy; generalize ρ' y = z at *; cases hv; rfl
          refine ⟨μ, w, Le.refl _, hw, Keep.refl _ _ _, divV P, ?_, .iface _ _ _ (.str _)⟩
          simp [execOp, ho, ex, ey, eqGuard, binOp, Op.intDiv, runtimePanic, goPanic, Sem.run, divV]
          rfl
      · simp at hd
    · exact other he
  · exact other he
end
end
end Go.Ev
