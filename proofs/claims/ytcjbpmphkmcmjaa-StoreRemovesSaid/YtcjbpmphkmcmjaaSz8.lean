/- An evaluator of the model's code, sound for every world, second edition: part 8. -/
import Derived.Test.YtcjbpmphkmcmjaaSz7
namespace Go.Sy
noncomputable section
open Go.Ev Go.RowKit
def cT (P : Program) : Nat → TypeId → Option (List TypeId)
  | 0, _ => none
  | d + 1, t =>
    match P.underlying t with
    | some (.struct fs) => fs.toList.foldr (fun f r => match cT P d f.type, r with | some a, some b => some (a ++ b) | _, _ => none) (some [])
    | some (.array n el) => (match cT P d el with | some a => some ((List.replicate n a).flatten) | none => none)
    | some _ => some [t]
    | none => none
structure Cn where
  v : Value
  rows : List Row
  bk : List (Option (Nat × Nat))
  p : Prop
def cOne (P : Program) (h : Hp) (t : TypeId) (v : Value) (i : Nat) : Option Cn :=
  match v with
  | .slice none 0 0 =>
    match P.underlying t with
    | some (.slice el) => (match szOf P el with | some m => some ⟨.slice (some ⟨i, 0, none⟩) 0 m, [⟨[], true, .cells true⟩], [none], True⟩ | none => none)
    | _ => none
  | .slice (some ⟨r, o, none⟩) n e =>
    match h.rows.find r with
    | some ⟨cells, _, .cells _⟩ => some ⟨.slice (some ⟨i, 0, none⟩) n e, [⟨(cells.drop o).take (n * e), true, .cells true⟩], [some (r, o)], o + n * e ≤ cells.length ∧ Plain ((cells.drop o).take (n * e))⟩
    | _ => none
  | .int k n => some ⟨.int k n, [], [], True⟩
  | .bool b => some ⟨.bool b, [], [], True⟩
  | .string s => some ⟨.string s, [], [], True⟩
  | .float k b => some ⟨.float k b, [], [], True⟩
  | .pointer none => some ⟨.pointer none, [], [], True⟩
  | .nilFunc => some ⟨.nilFunc, [], [], True⟩
  | .nilIface => some ⟨.nilIface, [], [], True⟩
  | _ => none
structure Cns where
  vs : List Value
  rows : List Row
  bk : List (Option (Nat × Nat))
  p : Prop
def cMany (P : Program) (h : Hp) : List TypeId → List Value → Nat → Option Cns
  | [], [], _ => some ⟨[], [], [], True⟩
  | t :: ts, v :: vs, i =>
    match cOne P h t v i with
    | some c => (match cMany P h ts vs (i + c.bk.length) with | some d => some ⟨c.v :: d.vs, c.rows ++ d.rows, c.bk ++ d.bk, c.p ∧ d.p⟩ | none => none)
    | none => none
  | _, _, _ => none
def cArg (P : Program) (h : Hp) (t : TypeId) (v : Value) (i : Nat) : Option Cn :=
  match v with
  | .agg ⟨vs⟩ =>
    match cT P 8 t with
    | some ts => (match cMany P h ts vs i with | some d => some ⟨.agg ⟨d.vs⟩, d.rows, d.bk, d.p⟩ | none => none)
    | none => none
  | v => cOne P h t v i
def cArgs (P : Program) (h : Hp) : List TypeId → List Value → Nat → Option Cns
  | [], [], _ => some ⟨[], [], [], True⟩
  | t :: ts, v :: vs, i =>
    match cArg P h t v i with
    | some c => (match cArgs P h ts vs (i + c.bk.length) with | some d => some ⟨c.v :: d.vs, c.rows ++ d.rows, c.bk ++ d.bk, c.p ∧ d.p⟩ | none => none)
    | none => none
  | _, _, _ => none
def bRow (bk : List (Option (Nat × Nat))) (next cnt : Nat) (i : Nat) : Option (Nat × Nat) :=
  bif Nat.blt i bk.length then (match bk[i]? with | some (some x) => some x | _ => none) else bif Nat.blt i (bk.length + cnt) then some (next + (i - bk.length), 0) else none
def bMany (f : Value → Option Value) : List Value → Option (List Value)
  | [] => some []
  | v :: r => match f v, bMany f r with | some a, some b => some (a :: b) | _, _ => none
def bV (bk : List (Option (Nat × Nat))) (next cnt : Nat) : Nat → Value → Option Value
  | 0, _ => none
  | d + 1, v =>
    match v with
    | .int k n => some (.int k n)
    | .bool b => some (.bool b)
    | .string s => some (.string s)
    | .float k b => some (.float k b)
    | .pointer none => some (.pointer none)
    | .slice none 0 0 => some (.slice none 0 0)
    | .nilFunc => some .nilFunc
    | .nilIface => some .nilIface
    | .slice (some ⟨i, k, none⟩) n e => (match bRow bk next cnt i with | some (r, o) => some (.slice (some ⟨r, o + k, none⟩) n e) | none => none)
    | .pointer (some ⟨i, k, none⟩) => (match bRow bk next cnt i with | some (r, o) => some (.pointer (some ⟨r, o + k, none⟩)) | none => none)
    | .slice (some ⟨z, k, some 0⟩) n e => some (.slice (some ⟨z, k, some 0⟩) n e)
    | .pointer (some ⟨z, k, some 0⟩) => some (.pointer (some ⟨z, k, some 0⟩))
    | .agg ⟨x⟩ => (match bMany (bV bk next cnt d) x with | some l => some (.agg ⟨l⟩) | none => none)
    | .tuple ⟨x⟩ => (match bMany (bV bk next cnt d) x with | some l => some (.tuple ⟨l⟩) | none => none)
    | _ => none
def bRows (bk : List (Option (Nat × Nat))) (next cnt : Nat) : List Row → Nat → Tr Row → Option (Prop × Tr Row)
  | [], _, t => some (True, t)
  | ⟨cells, false, .cells true⟩ :: l, q, t => (match bRows bk next cnt l (q + 1) (t.put q (some ⟨cells, false, .cells true⟩)) with | some (p, t') => some (Plain cells ∧ p, t') | none => none)
  | ⟨cells, false, .cells false⟩ :: l, q, t =>
    (match bMany (bV bk next cnt 12) cells with
    | some cells' => bRows bk next cnt l (q + 1) (t.put q (some ⟨cells', false, .cells false⟩))
    | none => none)
  | _, _, _ => none
def tOf (P : Program) (C : FuncId → List Value → List Row → Option (Prop × Value × List Row)) (known : FuncId → Bool) : FuncId → List Value → Hp → Option (Prop × Value × Hp) := fun f args h =>
  match known f with
  | false => none
  | true =>
    match P.funcs[f]? with
    | some fn =>
      match cArgs P h fn.params.toList args 0 with
      | some c =>
        match C f c.vs c.rows with
        | some (p, v, news) =>
          bif Nat.ble (h.next + news.length) 1000000 && Nat.ble c.bk.length 1000000 then
            match bV c.bk h.next news.length 12 v, bRows c.bk h.next news.length news h.next h.rows with
            | some v', some (p', rows') => bif noMark v' then some (c.p ∧ p' ∧ p, v', ⟨rows', h.next + news.length⟩) else none
            | _, _ => none
          else none
        | none => none
      | none => none
    | none => none
section
variable {B : Base} {μ : Mu} {w : World} {P : Program}
open Classical in
def gMu (μ : Mu) : Mu := fun r => if ∃ z i, r = gAt z i then μ r else none
theorem gMu_at (μ : Mu) (z i : Nat) : gMu μ (gAt z i) = μ (gAt z i) := by unfold gMu; rw [if_pos ⟨z, i, rfl⟩]
theorem gMu_out (μ : Mu) {r : Nat} (h : ∀ z i, r ≠ gAt z i) : gMu μ r = none := by unfold gMu; rw [if_neg (fun ⟨z, i, e⟩ => h z i e)]
theorem lt_noG {r : Nat} (h : r < Tr.top) : ∀ z i, r ≠ gAt z i := fun z i e => by have := gAt_ge z i; omega
def cMu (μ : Mu) (bk : List (Option (Nat × Nat))) : Mu := fun i => match bk[i]? with
  | some (some (r, d)) => (match μ r with | some (b, o, s) => some (b, o + d, s) | none => none)
  | some none => some (0, 0, 0)
  | none => gMu μ i
theorem cMu_g (μ : Mu) {bk : List (Option (Nat × Nat))} (h : bk.length ≤ Tr.top) (z i : Nat) : cMu μ bk (gAt z i) = μ (gAt z i) := by
  unfold cMu
  rw [List.getElem?_eq_none (by have := gAt_ge z i; omega)]
  exact gMu_at μ z i
theorem cMu_only (μ : Mu) (bk : List (Option (Nat × Nat))) : OnlyG bk.length (cMu μ bk) := fun r hr hg => by
  unfold cMu; rw [List.getElem?_eq_none hr]; exact gMu_out μ hg
def cOk (μ : Mu) (w : World) (row : Row) (x : Option (Nat × Nat)) : Prop :=
  row.ro = true ∧ (∃ s, row.ob = .cells s) ∧ (row.cells = [] ∧ (∀ r d, x = some (r, d) → ∃ q, μ r = some q) ∨
    ∃ r d b o s c e fr, x = some (r, d) ∧ μ r = some (b, o, s) ∧ b < w.heap.size ∧ w.heap[b]? = some (.cells c e fr) ∧ c.size = s ∧ o + d + row.cells.length ≤ s ∧ Plain row.cells ∧ VRs μ row.cells ((c.toList.drop (o + d)).take row.cells.length))
theorem wr_mu {n : Nat} {F : Nat → Option Row} (hw : WR B μ F n w) {r : Nat} {row : Row} (hr : F r = some row) : ∃ q, μ r = some q := by
  cases hv : row.void with
  | true => obtain ⟨b, o, s, h, _⟩ := hw.vrow r row hr hv; exact ⟨_, h⟩
  | false => obtain ⟨b, o, s, x, h, _⟩ := (hw.rows r row hr hv).mu; exact ⟨_, h⟩
def COk (μ : Mu) (w : World) (i : Nat) (vs : List Value) (rows : List Row) (bk : List (Option (Nat × Nat))) (ws : List Value) : Prop :=
  rows.length = bk.length ∧ (∀ (j : Nat) row x, rows[j]? = some row → bk[j]? = some x → cOk μ w row x) ∧
  ∀ μ' : Mu, (∀ j, j < bk.length → μ' (i + j) = cMu μ bk j) → VRs μ' vs ws
theorem COk.append {i : Nat} {vs1 vs2 : List Value} {rows1 rows2 : List Row} {bk1 bk2 : List (Option (Nat × Nat))} {ws1 ws2 : List Value} (h : COk μ w i vs1 rows1 bk1 ws1) (k : COk μ w (i + bk1.length) vs2 rows2 bk2 ws2) :
    COk μ w i (vs1 ++ vs2) (rows1 ++ rows2) (bk1 ++ bk2) (ws1 ++ ws2) := by
  obtain ⟨a1, a2, a3⟩ := h
  obtain ⟨b1, b2, b3⟩ := k
  refine ⟨by simp [a1, b1], fun j row x hr hx => ?_, fun μ' hμ => ?_⟩
  · by_cases hj : j < bk1.length
    · rw [List.getElem?_append_left (by omega)] at hr
      rw [List.getElem?_append_left hj] at hx
      exact a2 j row x hr hx
    · rw [List.getElem?_append_right (by omega)] at hr hx
      rw [a1] at hr
      exact b2 _ row x hr hx
  · refine (a3 μ' fun j hj => ?_).append (b3 μ' fun j hj => ?_)
    · rw [hμ j (by simp; omega)]
      unfold cMu
      rw [List.getElem?_append_left hj]
    · have := hμ (bk1.length + j) (by simp; omega)
      rw [show i + bk1.length + j = i + (bk1.length + j) by omega, this]
      unfold cMu
      rw [List.getElem?_append_right (by omega), show bk1.length + j - bk1.length = j by omega, List.getElem?_eq_getElem hj]
      rcases bk2[j] with _ | ⟨r, d⟩ <;> rfl
theorem cOk_flat {i : Nat} {v w' : Value} (h : ∀ μ' : Mu, VR μ' v w') : COk μ w i [v] [] [] [w'] :=
  ⟨rfl, fun j row x hr => by simp at hr, fun μ' _ => .cons (h μ') .nil⟩
theorem cOne_ok {h : Hp} (hw : WR B μ h.rows.find h.next w) {t : TypeId} {v w' : Value} {i : Nat} {c : Cn} (hc : cOne P h t v i = some c) (hv : VR μ v w') (hp : c.p) : COk μ w i [c.v] c.rows c.bk [w'] := by
  unfold cOne at hc
  split at hc
  · split at hc
    · split at hc
      · simp only [Option.some.injEq] at hc; subst hc
        cases hv
        refine ⟨rfl, fun j row x hr hx => ?_, fun μ' hμ => .cons (.slice0 _ _ _ none) .nil⟩
        cases j with
        | zero => simp at hr hx; subst hr; subst hx; exact ⟨rfl, ⟨_, rfl⟩, .inl ⟨rfl, fun r d h => by simp at h⟩⟩
        | succ j => simp at hr
      · simp at hc
    · simp at hc
  · rename_i r o n e
    split at hc
    · rename_i cells ro sy hr
      simp only [Option.some.injEq] at hc; subst hc
      obtain ⟨hle, hpl⟩ := hp
      have hlen : ((cells.drop o).take (n * e)).length = n * e := by simp; omega
      refine ⟨rfl, fun j row x hj hx => ?_, fun μ' hμ => ?_⟩
      · cases j with
        | succ j => simp at hj
        | zero =>
          simp at hj hx; subst hj; subst hx
          refine ⟨rfl, ⟨_, rfl⟩, ?_⟩
          by_cases h0 : n * e = 0
          · left; exact ⟨by simp [h0], fun r' d' h' => by simp at h'; obtain ⟨rfl, rfl⟩ := h'; exact wr_mu hw hr⟩
          · right
            have hne : 0 < cells.length := by omega
            obtain ⟨q, hq⟩ := wr_mu hw hr
            obtain ⟨b, ob, s⟩ := q
            obtain ⟨c, el, fr, g1, g2, g3, g4⟩ := row_cells (cells := cells) hw hr hne (k := o) (m := n * e) hle hq
            refine ⟨r, o, b, ob, s, c, el, fr, rfl, hq, (Array.getElem?_eq_some_iff.1 g1).1, g1, g2, ?_, hpl, ?_⟩
            · simp only; rw [hlen]; omega
            · simp only; rw [hlen]; exact g4
      · have h0 := hμ 0 (by simp)
        simp only [Nat.add_zero] at h0
        refine .cons ?_ .nil
        cases hv with
        | slice _ _ _ _ b ob s c hm hn hcc =>
          have : cMu μ [some (r, o)] 0 = some (b, ob + o, s) := by simp [cMu, hm]
          rw [this] at h0
          have := VR.slice (μ := μ') i 0 n e b (ob + o) s c h0 hn (by omega)
          simpa using this
        | slice0 _ _ _ a => exact .slice0 _ _ _ _
    · simp at hc
  all_goals first
    | (simp only [Option.some.injEq] at hc; subst hc; refine cOk_flat fun μ' => ?_; cases hv <;> first | exact .nan _ _ _ (by assumption) (by assumption) | (constructor; done))
    | simp at hc
theorem cMany_ok {h : Hp} (hw : WR B μ h.rows.find h.next w) : ∀ (ts : List TypeId) (vs ws : List Value) (i : Nat) (c : Cns), cMany P h ts vs i = some c → VRs μ vs ws → c.p → COk μ w i c.vs c.rows c.bk ws := by
  intro ts
  induction ts with
  | nil =>
    intro vs ws i c hc hv hp
    cases vs with
    | nil =>
      simp only [cMany, Option.some.injEq] at hc; subst hc
      have : ws = [] := List.eq_nil_of_length_eq_zero (by have := hv.1; simpa using this.symm)
      subst this
      exact ⟨rfl, fun j row x hr => by simp at hr, fun μ' _ => .nil⟩
    | cons => simp [cMany] at hc
  | cons t ts ih =>
    intro vs ws i c hc hv hp
    cases vs with
    | nil => simp [cMany] at hc
    | cons v vs =>
      obtain ⟨w', ws', rfl, h1, h2⟩ := VRs.uncons hv
      simp only [cMany] at hc
      split at hc
      · rename_i c1 hc1
        split at hc
        · rename_i d hd
          simp only [Option.some.injEq] at hc; subst hc
          exact COk.append (cOne_ok hw hc1 h1 hp.1) (ih _ _ _ _ hd h2 hp.2)
        · simp at hc
      · simp at hc
theorem cArg_ok {h : Hp} (hw : WR B μ h.rows.find h.next w) {t : TypeId} {v w' : Value} {i : Nat} {c : Cn} (hc : cArg P h t v i = some c) (hv : VR μ v w') (hp : c.p) : COk μ w i [c.v] c.rows c.bk [w'] := by
  unfold cArg at hc
  split at hc
  · rename_i vs
    split at hc
    · rename_i ts hts
      split at hc
      · rename_i d hd
        simp only [Option.some.injEq] at hc; subst hc
        cases hv with
        | agg _ x' hx hh =>
          obtain ⟨a1, a2, a3⟩ := cMany_ok hw _ _ _ _ _ hd (VRs.of_array hx hh) hp
          refine ⟨a1, a2, fun μ' hμ => .cons ?_ .nil⟩
          have := (a3 μ' hμ).agg
          simpa using this
      · simp at hc
    · simp at hc
  · exact cOne_ok hw hc hv hp
theorem cArgs_ok {h : Hp} (hw : WR B μ h.rows.find h.next w) : ∀ (ts : List TypeId) (vs ws : List Value) (i : Nat) (c : Cns), cArgs P h ts vs i = some c → VRs μ vs ws → c.p → COk μ w i c.vs c.rows c.bk ws := by
  intro ts
  induction ts with
  | nil =>
    intro vs ws i c hc hv hp
    cases vs with
    | nil =>
      simp only [cArgs, Option.some.injEq] at hc; subst hc
      have : ws = [] := List.eq_nil_of_length_eq_zero (by have := hv.1; simpa using this.symm)
      subst this
      exact ⟨rfl, fun j row x hr => by simp at hr, fun μ' _ => .nil⟩
    | cons => simp [cArgs] at hc
  | cons t ts ih =>
    intro vs ws i c hc hv hp
    cases vs with
    | nil => simp [cArgs] at hc
    | cons v vs =>
      obtain ⟨w', ws', rfl, h1, h2⟩ := VRs.uncons hv
      simp only [cArgs] at hc
      split at hc
      · rename_i c1 hc1
        split at hc
        · rename_i d hd
          simp only [Option.some.injEq] at hc; subst hc
          exact COk.append (cArg_ok hw hc1 h1 hp.1) (ih _ _ _ _ hd h2 hp.2)
        · simp at hc
      · simp at hc
theorem nums_find : ∀ (l : List Row) (i r : Nat), i + l.length ≤ Tr.top → (mkR (nums i l)).find r = if i ≤ r then l[r - i]? else none := by
  intro l
  induction l with
  | nil => intro i r _; simp [nums, mkR, Tr.find_leaf]
  | cons x l ih =>
    intro i r h
    simp only [List.length_cons] at h
    simp only [nums, mkR]
    rw [Tr.find_put _ _ _ _ (by omega), ih _ _ (by omega)]
    by_cases e : r = i
    · subst e; simp
    · rw [if_neg e]
      by_cases h2 : i + 1 ≤ r
      · rw [if_pos h2, if_pos (by omega)]
        obtain ⟨k, hk⟩ : ∃ k, r - i = k + 1 := ⟨r - i - 1, by omega⟩
        rw [hk, List.getElem?_cons_succ, show r - (i + 1) = k by omega]
      · rw [if_neg h2, if_neg (by omega)]
theorem plain_vrs {μ μ' : Mu} (hG : GLe μ μ') {l ws : List Value} (h : Plain l) (hv : VRs μ l ws) : VRs μ' l ws :=
  (h.rns (R := fun _ _ _ => False)).here (fun _ _ _ h => h.elim) hG hv
theorem COk.wr {vs : List Value} {rows : List Row} {bk : List (Option (Nat × Nat))} {ws : List Value} (hc : COk μ w 0 vs rows bk ws) {n : Nat} {F : Nat → Option Row} (hw : WR B μ F n w) (htop : rows.length ≤ Tr.top) :
    WR ⟨fun b => w.heap.size ≤ b, fun _ => False⟩ (cMu μ bk) (mkR (nums 0 rows)).find rows.length w := by
  obtain ⟨h1, h2, _⟩ := hc
  have at' : ∀ r row, (mkR (nums 0 rows)).find r = some row → rows[r]? = some row ∧ ∃ x, bk[r]? = some x ∧ cOk μ w row x := by
    intro r row h
    rw [nums_find _ _ _ (by omega), if_pos (Nat.zero_le _)] at h
    simp only [Nat.sub_zero] at h
    have hr := (List.getElem?_eq_some_iff.1 h).1
    exact ⟨h, _, List.getElem?_eq_getElem (by omega), h2 r row _ h (List.getElem?_eq_getElem (by omega))⟩
  have hgl : GLe μ (cMu μ bk) := fun z i _ h => (cMu_g μ (by omega) z i).trans h
  refine ⟨fun b hb => hb, fun _ hz => hz.elim, fun r hr hr2 => ?_, fun r row hr hv => ?_, fun r row hr hv => ?_, fun r q x y b o s o' s' hx hy hxv hyv hxr hyr => ?_,
    fun z i b o s hm => ⟨gIn_g hgl (hw.gho z i b o s ((cMu_g μ (by omega) z i).symm.trans hm)).1, fun ⟨r, row, _, _, g1, _, g3, _⟩ => by obtain ⟨_, _, _, hro, _⟩ := at' r row g1; rw [hro] at g3; simp at g3⟩,
    by obtain ⟨K, hK⟩ := hw.gfr; exact ⟨K, fun z i hi => (cMu_g μ (by omega) z i).trans (hK z i hi)⟩, TabOk.base hw.tab.1⟩
  · exact cMu_only μ bk r (by omega) (lt_noG hr2)
  · obtain ⟨_, x, hx, hro, ⟨sy, hob⟩, hcase⟩ := at' r row hr
    obtain ⟨cells, ro, ob⟩ := row
    subst hro; subst hob
    rcases hcase with ⟨h, _⟩ | ⟨r', d, b, o, s, c, e, ⟨lo, hi⟩, e1, g1, g2, g3, g4, g5, g6, g7⟩
    · subst h; simp [Row.void] at hv
    · refine ⟨b, o + d, s, c, e, lo, hi, ?_, g3, g4, g5, plain_vrs hgl g6 g7, fun h => by simp at h, fun _ => by show ¬ (w.heap.size ≤ b); omega⟩
      unfold cMu; rw [hx, e1]; simp only; rw [g1]
  · obtain ⟨_, x, hx, hro, ⟨sy, hob⟩, hcase⟩ := at' r row hr
    have hm : ∃ b o s, cMu μ bk r = some (b, o, s) := by
      unfold cMu; rw [hx]
      cases x with
      | none => exact ⟨_, _, _, rfl⟩
      | some x =>
        obtain ⟨r', d⟩ := x
        have : ∃ q, μ r' = some q := by
          rcases hcase with ⟨_, h⟩ | ⟨r2, d2, b, o, s, c, e, fr, e1, g1, _⟩
          · exact h r' d rfl
          · simp at e1; obtain ⟨rfl, rfl⟩ := e1; exact ⟨_, g1⟩
        obtain ⟨⟨b, o, s⟩, hq⟩ := this
        simp only; rw [hq]; exact ⟨_, _, _, rfl⟩
    obtain ⟨b, o, s, hm⟩ := hm
    exact ⟨b, o, s, hm, fun h => by rw [hro] at h; simp at h⟩
  · obtain ⟨_, z, _, hro, _⟩ := at' r x hx
    rw [hro] at hxr; simp at hxr
theorem bMany_spec {f : Value → Option Value} : ∀ (x l : List Value), bMany f x = some l → x.length = l.length ∧ ∀ (i : Nat) a b, x[i]? = some a → l[i]? = some b → f a = some b := by
  intro x
  induction x with
  | nil => intro l h; simp [bMany] at h; subst h; exact ⟨rfl, fun i a b h => by simp at h⟩
  | cons v x ih =>
    intro l h
    simp only [bMany] at h
    split at h
    · rename_i a b h1 h2
      simp only [Option.some.injEq] at h; subst h
      obtain ⟨k1, k2⟩ := ih _ h2
      refine ⟨by simp [k1], fun i p q hp hq => ?_⟩
      cases i with
      | zero => simp at hp hq; subst hp; subst hq; exact h1
      | succ i => simp at hp hq; exact k2 i p q hp hq
    · simp at h
theorem bMany_vrs {μ' μ2 : Mu} {f : Value → Option Value} (hf : ∀ v v' w, f v = some v' → VR μ' v w → VR μ2 v' w) {x l ws : List Value} (h : bMany f x = some l) (hv : VRs μ' x ws) : VRs μ2 l ws := by
  obtain ⟨h1, h2⟩ := bMany_spec _ _ h
  refine ⟨h1.symm.trans hv.1, fun i a b ha hb => ?_⟩
  have hi := (List.getElem?_eq_some_iff.1 ha).1
  have hx : i < x.length := by omega
  exact hf _ _ _ (h2 i _ a (List.getElem?_eq_getElem hx) ha) (hv.2 i _ b (List.getElem?_eq_getElem hx) hb)
theorem bV_vr {μ' μ2 : Mu} (hG : GLe μ' μ2) {bk : List (Option (Nat × Nat))} {next cnt : Nat} (hR : ∀ i r d, bRow bk next cnt i = some (r, d) → ∀ b o s, μ' i = some (b, o, s) → ∃ o0, o = o0 + d ∧ μ2 r = some (b, o0, s)) :
    ∀ (n : Nat) (v v' w : Value), bV bk next cnt n v = some v' → VR μ' v w → VR μ2 v' w := by
  intro n
  induction n with
  | zero => intro v v' w h; simp [bV] at h
  | succ n ih =>
    intro v v' w h hv
    unfold bV at h
    split at h
    · simp only [Option.some.injEq] at h; subst h; cases hv; exact .int _ _
    · simp only [Option.some.injEq] at h; subst h; cases hv; exact .bool _
    · simp only [Option.some.injEq] at h; subst h; cases hv; exact .str _
    · simp only [Option.some.injEq] at h; subst h
      cases hv with
      | float => exact .float _ _
      | nan _ _ _ h h' => exact .nan _ _ _ h h'
    · simp only [Option.some.injEq] at h; subst h; cases hv; exact .pnil
    · simp only [Option.some.injEq] at h; subst h; cases hv; exact .snil
    · simp only [Option.some.injEq] at h; subst h; cases hv; exact .nilFunc
    · simp only [Option.some.injEq] at h; subst h; cases hv; exact .nilIface
    · rename_i i k m e
      split at h
      · rename_i r d hb
        simp only [Option.some.injEq] at h; subst h
        cases hv with
        | slice _ _ _ _ b o s c hm hn hc =>
          obtain ⟨o0, rfl, h2⟩ := hR _ _ _ hb _ _ _ hm
          rw [show o0 + d + k = o0 + (d + k) by omega]
          exact .slice r (d + k) m e b o0 s c h2 hn (by omega)
        | slice0 => exact .slice0 _ _ _ _
      · simp at h
    · rename_i i k
      split at h
      · rename_i r d hb
        simp only [Option.some.injEq] at h; subst h
        cases hv with
        | ptr _ _ b o s hm =>
          obtain ⟨o0, rfl, h2⟩ := hR _ _ _ hb _ _ _ hm
          rw [show o0 + d + k = o0 + (d + k) by omega]
          exact .ptr r (d + k) b o0 s h2
      · simp at h
    · simp only [Option.some.injEq] at h; subst h
      cases hv with
      | gsl _ _ _ _ i b o s c hb hn hc => exact .gsl _ _ _ _ i b o s c (hG _ _ _ hb) hn hc
      | gsl0 => exact .gsl0 _ _ _ _
    · simp only [Option.some.injEq] at h; subst h
      cases hv with
      | gptr _ _ i b o s hb => exact .gptr _ _ i b o s (hG _ _ _ hb)
    · rename_i x
      split at h
      · rename_i l hl
        simp only [Option.some.injEq] at h; subst h
        cases hv with
        | agg _ x' hx hh =>
          have := (bMany_vrs (fun v v' w => ih v v' w) hl (VRs.of_array hx hh)).agg
          simpa using this
      · simp at h
    · rename_i x
      split at h
      · rename_i l hl
        simp only [Option.some.injEq] at h; subst h
        cases hv with
        | tuple _ x' hx hh =>
          have := (bMany_vrs (fun v v' w => ih v v' w) hl (VRs.of_array hx hh)).tuple
          simpa using this
      · simp at h
    · simp at h
theorem bRows_spec {bk : List (Option (Nat × Nat))} {next cnt : Nat} : ∀ (l : List Row) (q : Nat) (t : Tr Row) (p : Prop) (t' : Tr Row), bRows bk next cnt l q t = some (p, t') → p → q + l.length ≤ Tr.top →
    (∀ r, (r < q ∨ q + l.length ≤ r) → t'.find r = t.find r) ∧
    ∀ (j : Nat) row, l[j]? = some row → ∃ cells' sy, t'.find (q + j) = some ⟨cells', false, .cells sy⟩ ∧ row.ro = false ∧ row.ob = .cells sy ∧ ((cells' = row.cells ∧ Plain row.cells) ∨ bMany (bV bk next cnt 12) row.cells = some cells') := by
  intro l
  induction l with
  | nil => intro q t p t' h hp _; simp [bRows] at h; obtain ⟨_, rfl⟩ := h; exact ⟨fun r _ => rfl, fun j row hj => by simp at hj⟩
  | cons x l ih =>
    intro q t p t' h hp ht
    simp only [List.length_cons] at ht
    have fin : ∀ (cells' : List Value) (sy : Bool) (p2 : Prop), bRows bk next cnt l (q + 1) (t.put q (some ⟨cells', false, .cells sy⟩)) = some (p2, t') → p2 → x.ro = false → x.ob = .cells sy → ((cells' = x.cells ∧ Plain x.cells) ∨ bMany (bV bk next cnt 12) x.cells = some cells') →
        (∀ r, (r < q ∨ q + (x :: l).length ≤ r) → t'.find r = t.find r) ∧
        ∀ (j : Nat) row, (x :: l)[j]? = some row → ∃ cells' sy, t'.find (q + j) = some ⟨cells', false, .cells sy⟩ ∧ row.ro = false ∧ row.ob = .cells sy ∧ ((cells' = row.cells ∧ Plain row.cells) ∨ bMany (bV bk next cnt 12) row.cells = some cells') := by
      intro cells' sy p2 h2 hp2 hro hob hcase
      obtain ⟨k1, k2⟩ := ih _ _ _ _ h2 hp2 (by omega)
      refine ⟨fun r hr => ?_, fun j row hj => ?_⟩
      · simp only [List.length_cons] at hr
        rw [k1 r (by omega), Tr.find_put _ _ _ _ (by omega), if_neg (by omega)]
      · cases j with
        | zero =>
          simp at hj; subst hj
          exact ⟨cells', sy, by rw [k1 (q + 0) (by omega), Tr.find_put _ _ _ _ (by omega), if_pos (by omega)], hro, hob, hcase⟩
        | succ j =>
          simp at hj
          obtain ⟨c2, s2, g1, g2⟩ := k2 j row hj
          exact ⟨c2, s2, by rw [show q + (j + 1) = q + 1 + j by omega]; exact g1, g2⟩
    unfold bRows at h
    split at h
    · rename_i e; simp at e
    · rename_i _ _ cells l' heq
      simp only [List.cons.injEq] at heq
      obtain ⟨rfl, rfl⟩ := heq
      split at h
      · rename_i p2 t2 h2
        simp only [Option.some.injEq, Prod.mk.injEq] at h
        obtain ⟨rfl, rfl⟩ := h
        exact fin cells true p2 h2 hp.2 rfl rfl (.inl ⟨rfl, hp.1⟩)
      · simp at h
    · rename_i _ _ cells l' heq
      simp only [List.cons.injEq] at heq
      obtain ⟨rfl, rfl⟩ := heq
      split at h
      · rename_i cells' hb
        exact fin cells' false p h hp rfl rfl (.inr hb)
      · simp at h
    · simp at h
theorem calls_con {E : Env} {C : FuncId → List Value → List Row → Option (Prop × Value × List Row)} {known : FuncId → Bool} (hT : E.T = tOf E.P C known)
    (hC : ∀ f as rows p v news, C f as rows = some (p, v, news) → p → Con E.P f as rows v (rows ++ news)) (hO : E.O = fun _ _ _ => none := by rfl) : CallsOk E.P (oOf E) := by
  intro B f args h r h' μ w args' he hw hargs hok
  rw [oOf_none E hO] at he
  rw [hT] at he
  split at he
  · rename_i p v' hh ht
    split at he
    · rename_i hp
      simp only [Option.some.injEq, Prod.mk.injEq] at he
      obtain ⟨rfl, rfl⟩ := he
      unfold tOf at ht
      split at ht
      · simp at ht
      · split at ht
        · rename_i fn hf
          split at ht
          · rename_i c hc
            split at ht
            · rename_i p2 v news hcc
              cases hcond : (Nat.ble (h.next + news.length) 1000000 && Nat.ble c.bk.length 1000000) with
              | false => rw [hcond] at ht; simp at ht
              | true =>
                rw [hcond] at ht
                simp only [cond_true] at ht
                simp only [Bool.and_eq_true] at hcond
                have t1 := Nat.le_of_ble_eq_true hcond.1
                have t2 := Nat.le_of_ble_eq_true hcond.2
                split at ht
                · rename_i v2 p3 rows' hb1 hb2
                  have hnm : noMark v2 = true := by
                    cases hn : noMark v2 with
                    | true => rfl
                    | false => rw [hn] at ht; simp at ht
                  rw [hnm] at ht
                  simp only [cond_true, Option.some.injEq, Prod.mk.injEq] at ht
                  obtain ⟨rfl, rfl, rfl⟩ := ht
                  obtain ⟨hp1, hp3, hp2⟩ := hp
                  have hok' := cArgs_ok hw _ _ _ _ _ hc hargs hp1
                  have hlen := hok'.1
                  have hwc := hok'.wr hw (by unfold Tr.top; omega)
                  have hvs := hok'.2.2 (cMu μ c.bk) (fun j _ => by rw [Nat.zero_add])
                  refine (hC _ _ _ _ _ _ hcc hp2 _ _ _ _ (fun _ hz => hz) (by rw [hlen]; exact cMu_only μ c.bk) hwc hvs hok).mono ?_
                  rintro e w' ⟨μ', q1, q2, q3, q4⟩
                  have noOwn : ∀ b, ¬ Owns (cMu μ c.bk) (mkR (nums 0 c.rows)).find b := by
                    rintro b ⟨r, row, o, s, g1, g2, g3, g4⟩
                    rw [nums_find _ _ _ (by unfold Tr.top; omega), if_pos (Nat.zero_le _)] at g1
                    simp only [Nat.sub_zero] at g1
                    have hr := (List.getElem?_eq_some_iff.1 g1).1
                    have := (hok'.2.1 r row _ g1 (List.getElem?_eq_getElem (by omega))).1
                    rw [g3] at this; simp at this
                  have same : ∀ b, b < w.heap.size → w'.heap[b]? = w.heap[b]? := fun b hb => q3.block b hb (noOwn b)
                  obtain ⟨s1, s2⟩ := bRows_spec _ _ _ _ _ hb2 hp3 (by unfold Tr.top; omega)
                  have hbk9 : c.bk.length ≤ Tr.top := by unfold Tr.top; omega
                  let μ2 : Mu := fun r => if h.next ≤ r ∧ r < h.next + news.length then μ' (c.rows.length + (r - h.next)) else match gMu μ' r with | some p => some p | none => μ r
                  have m_in : ∀ j, j < news.length → μ2 (h.next + j) = μ' (c.rows.length + j) := by
                    intro j hj; show (if _ then _ else _) = _; rw [if_pos ⟨by omega, by omega⟩, show h.next + j - h.next = j by omega]
                  have m_lo : ∀ r, (r < h.next ∨ h.next + news.length ≤ r) → r < Tr.top → μ2 r = μ r := by
                    intro r hr hr2; show (if _ then _ else _) = _; rw [if_neg (by omega), gMu_out μ' (lt_noG hr2)]
                  have m_g : ∀ z i, μ2 (gAt z i) = μ' (gAt z i) := by
                    intro z i
                    show (if _ then _ else _) = _
                    rw [if_neg (by have := gAt_ge z i; unfold Tr.top at this; omega), gMu_at]
                    cases hg : μ' (gAt z i) with
                    | some p => rfl
                    | none =>
                      simp only
                      cases hg2 : μ (gAt z i) with
                      | none => rfl
                      | some p => have := q1 _ _ ((cMu_g μ hbk9 z i).trans hg2); rw [hg] at this; simp at this
                  have hle : Le μ μ2 := by
                    intro r q hq
                    have : r < h.next ∨ Tr.top ≤ r := by
                      rcases Nat.lt_or_ge r h.next with h1 | h1
                      · exact .inl h1
                      · rcases Nat.lt_or_ge r Tr.top with h2 | h2
                        · rw [hw.fresh r h1 h2] at hq; simp at hq
                        · exact .inr h2
                    rcases this with h1 | h1
                    · rw [m_lo r (.inl h1) (by unfold Tr.top; omega)]; exact hq
                    · by_cases hg : ∃ z i, r = gAt z i
                      · obtain ⟨z, i, rfl⟩ := hg
                        rw [m_g]; exact q1 _ _ ((cMu_g μ hbk9 z i).trans hq)
                      · show (if _ then _ else _) = _
                        rw [if_neg (by unfold Tr.top at h1; omega), gMu_out μ' (fun z i e => hg ⟨z, i, e⟩)]; exact hq
                  have hGm : GLe μ' μ2 := fun z i p h => (m_g z i).trans h
                  have m_out : ∀ r row, h.rows.find r = some row → μ2 r = μ r := by
                    intro r row hr
                    obtain ⟨q, hq⟩ := wr_mu hw hr
                    rw [hq]; exact hle _ _ hq
                  have hfindc : ∀ j row, news[j]? = some row → (mkR (nums 0 (c.rows ++ news))).find (c.rows.length + j) = some row := by
                    intro j row hj
                    rw [nums_find _ _ _ (by simp; unfold Tr.top; omega), if_pos (Nat.zero_le _), Nat.sub_zero, List.getElem?_append_right (by omega), show c.rows.length + j - c.rows.length = j by omega]
                    exact hj
                  have hR : ∀ i r d, bRow c.bk h.next news.length i = some (r, d) → ∀ b o s, μ' i = some (b, o, s) → ∃ o0, o = o0 + d ∧ μ2 r = some (b, o0, s) := by
                    intro i r d hb b o s hm
                    unfold bRow at hb
                    cases hi : Nat.blt i c.bk.length with
                    | true =>
                      rw [hi] at hb
                      simp only [cond_true] at hb
                      have hi' : i < c.bk.length := Nat.le_of_ble_eq_true hi
                      split at hb
                      · rename_i x hx
                        simp only [Option.some.injEq] at hb; subst hb
                        have hrow : ∃ row, c.rows[i]? = some row := ⟨_, List.getElem?_eq_getElem (by omega)⟩
                        obtain ⟨row, hrow⟩ := hrow
                        have hcm : ∃ b0 o0 s0, μ r = some (b0, o0, s0) := by
                          rcases (hok'.2.1 i row _ hrow hx).2.2 with ⟨_, g⟩ | ⟨r2, d2, b0, o0, s0, _, _, _, e1, g1, _⟩
                          · obtain ⟨⟨b0, o0, s0⟩, g⟩ := g r d rfl; exact ⟨_, _, _, g⟩
                          · simp at e1; obtain ⟨rfl, rfl⟩ := e1; exact ⟨_, _, _, g1⟩
                        obtain ⟨b0, o0, s0, hq⟩ := hcm
                        have hc0 : cMu μ c.bk i = some (b0, o0 + d, s0) := by unfold cMu; rw [hx]; simp only; rw [hq]
                        have := q1 _ _ hc0
                        rw [hm] at this
                        simp only [Option.some.injEq, Prod.mk.injEq] at this
                        obtain ⟨rfl, rfl, rfl⟩ := this
                        exact ⟨o0, rfl, hle _ _ hq⟩
                      · simp at hb
                    | false =>
                      rw [hi] at hb
                      simp only [cond_false] at hb
                      have hi' : c.bk.length ≤ i := by
                        rcases Nat.lt_or_ge i c.bk.length with h1 | h1
                        · have : Nat.blt i c.bk.length = true := Nat.ble_eq_true_of_le h1
                          rw [hi] at this; simp at this
                        · exact h1
                      cases hi3 : Nat.blt i (c.bk.length + news.length) with
                      | false => rw [hi3] at hb; simp at hb
                      | true =>
                        rw [hi3] at hb
                        simp only [cond_true, Option.some.injEq, Prod.mk.injEq] at hb
                        obtain ⟨rfl, rfl⟩ := hb
                        have hi2 : i < c.bk.length + news.length := Nat.le_of_ble_eq_true hi3
                        refine ⟨o, rfl, ?_⟩
                        rw [m_in _ (by omega), show c.rows.length + (i - c.bk.length) = i by omega]; exact hm
                  have which : ∀ r row, rows'.find r = some row → (∃ j row0, r = h.next + j ∧ j < news.length ∧ news[j]? = some row0 ∧ row.ro = false ∧ row0.ro = false ∧ (∃ sy, row.ob = .cells sy ∧ row0.ob = .cells sy) ∧ ((row.cells = row0.cells ∧ Plain row0.cells) ∨ bMany (bV c.bk h.next news.length 12) row0.cells = some row.cells)) ∨
                      ((r < h.next ∨ h.next + news.length ≤ r) ∧ h.rows.find r = some row) := by
                    intro r row hr
                    by_cases hin : h.next ≤ r ∧ r < h.next + news.length
                    · left
                      obtain ⟨row0, h0⟩ : ∃ row0, news[r - h.next]? = some row0 := ⟨_, List.getElem?_eq_getElem (by omega)⟩
                      obtain ⟨cells', sy, g1, g2, g3, g4⟩ := s2 _ _ h0
                      rw [show h.next + (r - h.next) = r by omega, hr] at g1
                      simp only [Option.some.injEq] at g1; subst g1
                      exact ⟨r - h.next, row0, by omega, by omega, h0, rfl, g2, ⟨sy, rfl, g3⟩, g4⟩
                    · right
                      have ho : r < h.next ∨ h.next + news.length ≤ r := by omega
                      exact ⟨ho, by rw [← s1 r ho]; exact hr⟩
                  have cellsRel : ∀ row row0 : Row, ((row.cells = row0.cells ∧ Plain row0.cells) ∨ bMany (bV c.bk h.next news.length 12) row0.cells = some row.cells) → row.cells.length = row0.cells.length ∧ ∀ ws, VRs μ' row0.cells ws → VRs μ2 row.cells ws := by
                    intro row row0 hc
                    rcases hc with ⟨h1, h2⟩ | h1
                    · exact ⟨by rw [h1], fun ws hv => by rw [h1]; exact plain_vrs hGm h2 hv⟩
                    · exact ⟨(bMany_spec _ _ h1).1.symm, fun ws hv => bMany_vrs (fun v v' w => bV_vr hGm hR 12 v v' w) h1 hv⟩
                  have voids : ∀ row row0 : Row, row.cells.length = row0.cells.length → (∃ sy, row.ob = .cells sy ∧ row0.ob = .cells sy) → row.void = row0.void := by
                    rintro ⟨c1, r1, o1⟩ ⟨c2, r2, o2⟩ hl ⟨sy, h1, h2⟩
                    simp only at hl h1 h2
                    subst h1; subst h2
                    cases c1 <;> cases c2 <;> simp_all [Row.void]
                  have newBlk : ∀ j row0, news[j]? = some row0 → row0.void = false → row0.ro = false → ∀ b o s, μ2 (h.next + j) = some (b, o, s) → w.heap.size ≤ b := by
                    intro j row0 hj hv hro b o s hm
                    have hjl := (List.getElem?_eq_some_iff.1 hj).1
                    rw [m_in j hjl] at hm
                    obtain ⟨b1, o1, s1, x, g1, _, g3, _⟩ := (q2.rows _ _ (hfindc j row0 hj) hv).mu
                    rw [hm] at g1
                    simp only [Option.some.injEq, Prod.mk.injEq] at g1
                    obtain ⟨rfl, _, _⟩ := g1
                    exact g3 hro
                  have hgho : ∀ z i b o s, μ2 (gAt z i) = some (b, o, s) → GIn μ2 w' z b o s ∧ ¬ Owns μ2 rows'.find b := by
                    intro z i b o s hm
                    rw [m_g] at hm
                    refine ⟨gIn_g hGm (q2.gho z i b o s hm).1, ?_⟩
                    rintro ⟨r, row, o1, s1, hr, hv, hro, hm1⟩
                    rcases which r row hr with ⟨j, row0, rfl, hj, h0, _, hro0, ho, hcs⟩ | ⟨ho, h0⟩
                    · obtain ⟨k1, _⟩ := cellsRel row row0 hcs
                      rw [m_in j hj] at hm1
                      exact (q2.gho z i b o s hm).2 ⟨_, row0, _, _, hfindc j row0 h0, by rw [← voids row row0 k1 ho]; exact hv, hro0, hm1⟩
                    · rw [m_out r row h0] at hm1
                      rcases q3.gnew z i b o s hm with h | h | h
                      · exact (hw.gho z i b o s ((cMu_g μ hbk9 z i).symm.trans h)).2 ⟨r, row, _, _, h0, hv, hro, hm1⟩
                      · exact noOwn b h
                      · have := (hw.rows r row h0 hv).lt hm1; omega
                  have hgfr : ∃ K, ∀ z i, K ≤ i → μ2 (gAt z i) = none := by
                    obtain ⟨K, hK⟩ := q2.gfr; exact ⟨K, fun z i hi => (m_g z i).trans (hK z i hi)⟩
                  have hgnew : ∀ z i b o s, μ2 (gAt z i) = some (b, o, s) → μ (gAt z i) = some (b, o, s) ∨ Owns μ h.rows.find b ∨ w.heap.size ≤ b := by
                    intro z i b o s hm
                    rw [m_g] at hm
                    rcases q3.gnew z i b o s hm with h | h | h
                    · exact .inl ((cMu_g μ hbk9 z i).symm.trans h)
                    · exact absurd h (noOwn b)
                    · exact .inr (.inr h)
                  refine ⟨μ2, hle, ⟨fun b hb => hw.base b (Nat.le_trans q3.size hb), fun z hz => ?_, fun r hr hr2 => ?_, fun r row hr hv => ?_, fun r row hr hv => ?_, fun r q x y b o s o' s' hx hy hxv hyv hxr hyr hm1 hm2 => ?_, hgho, hgfr, ⟨q2.tab.1, hw.tab.2⟩⟩, ⟨q3.os, q3.tape, q3.output, q3.size, fun b hb _ => same b hb, fun b hb => ?_, hgnew⟩, ?_⟩
                  · obtain ⟨g1, g2⟩ := hw.hole z hz
                    exact ⟨by rw [m_lo z (.inl g2) (by unfold Tr.top; omega)]; exact g1, by simp only; omega⟩
                  · simp only at hr
                    rw [m_lo r (.inr hr) hr2]; exact hw.fresh r (by omega) hr2
                  · rcases which r row hr with ⟨j, row0, rfl, hj, h0, hro, hro0, ⟨sy, ho1, ho2⟩, hcs⟩ | ⟨ho, h0⟩
                    · obtain ⟨k1, k2⟩ := cellsRel row row0 hcs
                      have hv0 : row0.void = false := by rw [← voids row row0 k1 ⟨sy, ho1, ho2⟩]; exact hv
                      have hri := q2.rows _ _ (hfindc j row0 h0) hv0
                      obtain ⟨cells, ro, ob⟩ := row
                      obtain ⟨cells0, ro0, ob0⟩ := row0
                      simp only at hro hro0 ho1 ho2 k1 k2
                      subst hro; subst hro0; subst ho1; subst ho2
                      obtain ⟨b, o, s, cc, e1, lo, hi, g1, g2, g3, g4, g5, g6, g7⟩ := hri
                      simp only at g4 g5
                      refine ⟨b, o, s, cc, e1, lo, hi, by rw [m_in j hj]; exact g1, g2, g3, by simp only; rw [k1]; exact g4, ?_, fun _ => ⟨hw.base b (g6 rfl).1, (g6 rfl).2⟩, fun h => by simp at h⟩
                      simp only
                      rw [k1]; exact k2 _ g5
                    · exact (hw.rows r row h0 hv).kept hle fun b o s hm => same b ((hw.rows r row h0 hv).lt hm)
                  · rcases which r row hr with ⟨j, row0, rfl, hj, h0, hro, hro0, ⟨sy, ho1, ho2⟩, hcs⟩ | ⟨ho, h0⟩
                    · obtain ⟨k1, _⟩ := cellsRel row row0 hcs
                      have hv0 : row0.void = true := by rw [← voids row row0 k1 ⟨sy, ho1, ho2⟩]; exact hv
                      obtain ⟨b, o, s, g1, g2⟩ := q2.vrow _ _ (hfindc j row0 h0) hv0
                      exact ⟨b, o, s, by rw [m_in j hj]; exact g1, fun _ => g2 hro0⟩
                    · obtain ⟨b, o, s, g1, g2⟩ := hw.vrow r row h0 hv
                      exact ⟨b, o, s, hle _ _ g1, g2⟩
                  · rcases which r x hx with ⟨j1, x0, rfl, hj1, h01, _, hro1, ho1, hcs1⟩ | ⟨hr1, h01⟩ <;> rcases which q y hy with ⟨j2, y0, rfl, hj2, h02, _, hro2, ho2, hcs2⟩ | ⟨hr2, h02⟩
                    · obtain ⟨k1, _⟩ := cellsRel x x0 hcs1
                      obtain ⟨k2, _⟩ := cellsRel y y0 hcs2
                      have v1 : x0.void = false := by rw [← voids x x0 k1 ho1]; exact hxv
                      have v2 : y0.void = false := by rw [← voids y y0 k2 ho2]; exact hyv
                      rw [m_in j1 hj1] at hm1; rw [m_in j2 hj2] at hm2
                      have := q2.apart _ _ _ _ b o s o' s' (hfindc j1 x0 h01) (hfindc j2 y0 h02) v1 v2 hro1 hro2 hm1 hm2
                      omega
                    · obtain ⟨k1, _⟩ := cellsRel x x0 hcs1
                      have v1 : x0.void = false := by rw [← voids x x0 k1 ho1]; exact hxv
                      have g1 := newBlk j1 x0 h01 v1 hro1 b o s hm1
                      rw [m_out q y h02] at hm2
                      have g2 := (hw.rows q y h02 hyv).lt hm2
                      omega
                    · obtain ⟨k2, _⟩ := cellsRel y y0 hcs2
                      have v2 : y0.void = false := by rw [← voids y y0 k2 ho2]; exact hyv
                      have g1 := newBlk j2 y0 h02 v2 hro2 b o' s' hm2
                      rw [m_out r x h01] at hm1
                      have g2 := (hw.rows r x h01 hxv).lt hm1
                      omega
                    · rw [m_out r x h01] at hm1; rw [m_out q y h02] at hm2
                      exact hw.apart r q x y b o s o' s' h01 h02 hxv hyv hxr hyr hm1 hm2
                  · obtain ⟨r, row, o, s, hr, hv, hro, hm⟩ := hb
                    rcases which r row hr with ⟨j, row0, rfl, hj, h0, _, hro0, ho, hcs⟩ | ⟨ho, h0⟩
                    · obtain ⟨k1, _⟩ := cellsRel row row0 hcs
                      exact .inr (newBlk j row0 h0 (by rw [← voids row row0 k1 ho]; exact hv) hro0 b o s hm)
                    · rw [m_out r row h0] at hm
                      exact .inl ⟨r, row, o, s, h0, hv, hro, hm⟩
                  · rw [noMark_end hnm]
                    cases e with
                    | returned v' => exact bV_vr hGm hR 12 v v2 v' hb1 q4
                    | panicked ch => exact q4.elim
                    | outgrown => exact q4.elim
                · simp at ht
            · simp at ht
          · simp at ht
        · simp at ht
    · simp at he
  · simp at he
end
end
end Go.Sy
namespace Go.Sy
noncomputable section
open Go.Ev Go.RowKit
def I64 (n : Int) : Prop := -9223372036854775808 ≤ n ∧ n ≤ 9223372036854775807
def Small (l : Int) : Prop := -1152921504606846976 ≤ l ∧ l ≤ 1152921504606846976
theorem Small.i64 {l : Int} (h : Small l) : I64 l := by unfold Small at h; unfold I64; omega
theorem wr64 (n : Int) : IntKind.wrap .i64 n = (n + 9223372036854775808) % 18446744073709551616 - 9223372036854775808 := by
  simp only [IntKind.wrap, IntKind.bits, IntKind.signed]
  simp only [Bool.true_and, ge_iff_le, decide_eq_true_eq]
  split <;> omega
theorem wr64_id {n : Int} (h : I64 n) : IntKind.wrap .i64 n = n := by rw [wr64]; unfold I64 at h; omega
theorem wru8 (n : Int) : IntKind.wrap .u8 n = n % 256 := by
  simp only [IntKind.wrap, IntKind.bits, IntKind.signed]
  simp
def within (n lo hi : Int) : Int := lo + n % (hi - lo + 1)
theorem within_eq (n d : Int) (hd : 0 < d) : (Int.tmod n d < 0 → Int.tmod n d + d = n % d) ∧ (0 ≤ Int.tmod n d → Int.tmod n d = n % d) := by
  have h1 := Int.tmod_eq_emod (a := n) (b := d)
  have h2 := Int.emod_nonneg n (by omega : d ≠ 0)
  have h3 := Int.emod_lt_of_pos n hd
  have h4 : (d.natAbs : Int) = d := by omega
  constructor
  · intro h
    rw [h1] at h ⊢
    split at h <;> rename_i hc <;> simp only [hc, if_true, if_false] at * <;> first | omega | (simp only [h4] at *; omega)
  · intro h
    rw [h1] at h ⊢
    split at h <;> rename_i hc <;> simp only [hc, if_true, if_false] at * <;> first | omega | (simp only [h4] at *; omega)
def envC (P : Program) (C : FuncId → List Value → List Row → Option (Prop × Value × List Row)) (known : FuncId → Bool) : Env := { P := P, T := tOf P C known, L := fun _ _ => none }
theorem lok_envC (P : Program) (C : FuncId → List Value → List Row → Option (Prop × Value × List Row)) (known : FuncId → Bool) : LOk (envC P C known) := lok_none fun _ _ => rfl
theorem calls_envC {P : Program} {C : FuncId → List Value → List Row → Option (Prop × Value × List Row)} {known : FuncId → Bool} (hC : ∀ f a rows p v news, C f a rows = some (p, v, news) → p → Con P f a rows v (rows ++ news)) : CallsOk P (oOf (envC P C known)) :=
  calls_con (E := envC P C known) (C := C) (known := known) rfl hC
def envN (P : Program) : Env := envC P (fun _ _ _ => none) (fun _ => false)
theorem calls_envN (P : Program) : CallsOk P (oOf (envN P)) := calls_envC fun f a rows p v news h => by simp at h
theorem lok_envN (P : Program) : LOk (envN P) := lok_envC _ _ _
def noM : FuncId → List Nat → Option Spec := fun _ _ => none
theorem lm_none {E : Env} {n0 : Nat} : LMOk E n0 noM := fun f p _ _ _ _ hl => by simp [noM] at hl
def codeOf (P : Program) (f : FuncId) (p : List Nat) : Code :=
  match P.funcs[f]? with
  | some fn => (match fn.body with | some c => (match codeAt c p with | some c => c | none => .skip) | none => .skip)
  | none => .skip
theorem codeOf_eq {P : Program} {f : FuncId} {p : List Nat} {fn : Func} {c0 c : Code} (hf : P.funcs[f]? = some fn) (hb : fn.body = some c0) (hc : codeAt c0 p = some c) : codeOf P f p = c := by
  unfold codeOf; rw [hf]; simp only [hb, hc]
def loopAt (P : Program) (f : FuncId) (p : List Nat) : Bool :=
  match P.funcs[f]? with
  | some fn => (match fn.body with | some c => (match codeAt c p with | some (.loop _) => true | _ => false) | none => false)
  | none => false
theorem loop_of {P : Program} {f : FuncId} {p : List Nat} {fn : Func} {c0 c : Code} (h : loopAt P f p = true) (hf : P.funcs[f]? = some fn) (hb : fn.body = some c0) (hc : codeAt c0 p = some c) : ∃ b, c = .loop b ∧ codeAt c0 (0 :: p) = some b := by
  unfold loopAt at h
  rw [hf] at h
  simp only [hb, hc] at h
  cases c <;> simp at h
  exact ⟨_, rfl, by simp only [codeAt, hc]⟩
def mOf : List (FuncId × List Nat × Spec) → FuncId → List Nat → Option Spec
  | [], _, _ => none
  | x :: r, f, p => bif Nat.beq x.1 f && decide (x.2.1 = p) then some x.2.2 else mOf r f p
def PieceOk (E : Env) (n0 : Nat) (x : FuncId × List Nat × Spec) : Prop :=
  ∀ fn c0 c, E.P.funcs[x.1]? = some fn → fn.body = some c0 → codeAt c0 x.2.1 = some c → ∀ fr u h K, x.2.2 fr u h K → OkM E n0 false c fr u h K
theorem lm_of {E : Env} {n0 : Nat} : ∀ (l : List (FuncId × List Nat × Spec)), (∀ x ∈ l, PieceOk E n0 x) → LMOk E n0 (mOf l) := by
  intro l
  induction l with
  | nil => intro _ f p spec fn c0 c hl; simp [mOf] at hl
  | cons x r ih =>
    intro hx f p spec fn c0 c hl hf hb hc
    simp only [mOf] at hl
    cases hq : (Nat.beq x.1 f && decide (x.2.1 = p)) with
    | false => rw [hq] at hl; exact ih (fun y hy => hx y (by simp [hy])) f p spec fn c0 c hl hf hb hc
    | true =>
      rw [hq] at hl
      simp only [cond_true, Option.some.injEq] at hl
      simp only [Bool.and_eq_true, decide_eq_true_eq] at hq
      obtain ⟨h1, h2⟩ := hq
      have h1 := Nat.eq_of_beq_eq_true h1
      subst h1; subst h2; subst hl
      exact hx x (by simp) fn c0 c hf hb hc
theorem lm_one {E : Env} {n0 : Nat} {x : FuncId × List Nat × Spec} (h : PieceOk E n0 x) : LMOk E n0 (mOf [x]) := lm_of _ fun y hy => by simp at hy; subst hy; exact h
theorem lm_two {E : Env} {n0 : Nat} {x y : FuncId × List Nat × Spec} (h : PieceOk E n0 x) (k : PieceOk E n0 y) : LMOk E n0 (mOf [x, y]) := lm_of _ fun z hz => by
  simp at hz; rcases hz with rfl | rfl
  · exact h
  · exact k
def roundK {ι υ : Type} (n0 n' nt : Nat) (Inv : ι → Prop) (m : ι → Nat) (sl : ι → List (Nat × Value)) (rl : ι → List (Nat × Row)) (ws : List (Gate υ)) (i : ι) : KO := fun x => match x with
  | (.normal, fr', u', h') => ∃ j, Inv j ∧ m j < m i ∧ atSt n0 n' nt (sl j) (rl j) fr' u' h' True
  | r => endsIn n0 nt ws r
section
variable {E : Env} {n0 : Nat}
theorem okM_of_mev (hm : E.P.follows .mixedOrders = true) (ho : CallsOk E.P (oOf E)) (hL : LOk E) {M : FuncId → List Nat → Option Spec} (hM : LMOk E n0 M) {f : FuncId} {fn : Func} {c0 c : Code} {p : List Nat} (hf : E.P.funcs[f]? = some fn) (hb : fn.body = some c0)
    (hc : codeAt c0 p = some c) {n : Nat} {fr : Fr} {u : Option FrameMode} {h : Hp} {K : KO} (hs : mev E M n f p false (codeOf E.P f p) fr u h K) : OkM E n0 false c fr u h K := by
  rw [codeOf_eq hf hb hc] at hs
  exact mev_okM hm ho hL hM n f fn c0 hf hb p false c fr u h K (by simpa using hc) hs
theorem loopSpec_okM (hm : E.P.follows .mixedOrders = true) (ho : CallsOk E.P (oOf E)) (hL : LOk E) {M : FuncId → List Nat → Option Spec} (hM : LMOk E n0 M) {f : FuncId} {p : List Nat} (hloop : loopAt E.P f p = true) {ι υ κ : Type} {n' nt n : Nat}
    {Pre : κ → Prop} {start : κ → ι} {Inv : κ → ι → Prop} {m : κ → ι → Nat} {sl : κ → ι → List (Nat × Value)} {rl : κ → ι → List (Nat × Row)} {ws : κ → List (Gate υ)}
    (hstart : ∀ g, Pre g → Inv g (start g))
    (hround : ∀ g i, Pre g → Inv g i → mev E M n f (0 :: p) false (codeOf E.P f (0 :: p)) ⟨mkOv (sl g i), nt, []⟩ none ⟨mkR (rl g i), n'⟩ (roundK n0 n' nt (Inv g) (m g) (sl g) (rl g) (ws g) i))
    {spec : Spec} {fn : Func} {c0 c : Code} (hspec : spec = specOf n0 n' nt Pre (fun g => sl g (start g)) (fun g => rl g (start g)) ws) (hf : E.P.funcs[f]? = some fn) (hb : fn.body = some c0) (hc : codeAt c0 p = some c)
    {fr : Fr} {u : Option FrameMode} {h : Hp} {K : KO} (hs : spec fr u h K) : OkM E n0 false c fr u h K := by
  subst hspec
  obtain ⟨body, rfl, hbody⟩ := loop_of hloop hf hb hc
  refine specOf_okM (fun g K hp hK => ?_) hs
  exact loop_okM (sl g) (rl g) (Inv g) (m g) hK (fun i hi => okM_of_mev hm ho hL hM hf hb hbody (hround g i hp hi)) (m g (start g)) (start g) (Nat.le_refl _) (hstart g hp) false
theorem piece_loop (hm : E.P.follows .mixedOrders = true) (ho : CallsOk E.P (oOf E)) (hL : LOk E) {M : FuncId → List Nat → Option Spec} (hM : LMOk E n0 M) {f : FuncId} {p : List Nat} (hloop : loopAt E.P f p = true) {ι υ κ : Type} {n' nt n : Nat}
    {Pre : κ → Prop} (start : κ → ι) (Inv : κ → ι → Prop) (m : κ → ι → Nat) {sl : κ → ι → List (Nat × Value)} {rl : κ → ι → List (Nat × Row)} {ws : κ → List (Gate υ)}
    (hstart : ∀ g, Pre g → Inv g (start g))
    (hround : ∀ g i, Pre g → Inv g i → mev E M n f (0 :: p) false (codeOf E.P f (0 :: p)) ⟨mkOv (sl g i), nt, []⟩ none ⟨mkR (rl g i), n'⟩ (roundK n0 n' nt (Inv g) (m g) (sl g) (rl g) (ws g) i)) :
    PieceOk E n0 (f, p, specOf n0 n' nt Pre (fun g => sl g (start g)) (fun g => rl g (start g)) ws) :=
  fun _ _ _ hf hb hc _ _ _ _ hs => loopSpec_okM hm ho hL hM hloop hstart hround rfl hf hb hc hs
theorem pieceSpec_okM (hm : E.P.follows .mixedOrders = true) (ho : CallsOk E.P (oOf E)) (hL : LOk E) {M : FuncId → List Nat → Option Spec} (hM : LMOk E n0 M) {f : FuncId} {p : List Nat} {υ κ : Type} {n' nt n : Nat}
    {Pre : κ → Prop} {sl : κ → List (Nat × Value)} {rl : κ → List (Nat × Row)} {ws : κ → List (Gate υ)}
    (hpiece : ∀ g, Pre g → mev E M n f p false (codeOf E.P f p) ⟨mkOv (sl g), nt, []⟩ none ⟨mkR (rl g), n'⟩ (endsIn n0 nt (ws g)))
    {spec : Spec} {fn : Func} {c0 c : Code} (hspec : spec = specOf n0 n' nt Pre sl rl ws) (hf : E.P.funcs[f]? = some fn) (hb : fn.body = some c0) (hc : codeAt c0 p = some c)
    {fr : Fr} {u : Option FrameMode} {h : Hp} {K : KO} (hs : spec fr u h K) : OkM E n0 false c fr u h K := by
  subst hspec
  refine specOf_okM (fun g K hp hK => ?_) hs
  exact piece_okM (okM_of_mev hm ho hL hM hf hb hc (hpiece g hp)) hK
theorem piece_code (hm : E.P.follows .mixedOrders = true) (ho : CallsOk E.P (oOf E)) (hL : LOk E) {M : FuncId → List Nat → Option Spec} (hM : LMOk E n0 M) {f : FuncId} {p : List Nat} {υ κ : Type} {n' nt n : Nat}
    {Pre : κ → Prop} {sl : κ → List (Nat × Value)} {rl : κ → List (Nat × Row)} {ws : κ → List (Gate υ)}
    (hpiece : ∀ g, Pre g → mev E M n f p false (codeOf E.P f p) ⟨mkOv (sl g), nt, []⟩ none ⟨mkR (rl g), n'⟩ (endsIn n0 nt (ws g))) : PieceOk E n0 (f, p, specOf n0 n' nt Pre sl rl ws) :=
  fun _ _ _ hf hb hc _ _ _ _ hs => pieceSpec_okM hm ho hL hM hpiece rfl hf hb hc hs
theorem con_vc (hm : E.P.follows .mixedOrders = true) (ho : CallsOk E.P (oOf E)) (hL : LOk E) {M : FuncId → List Nat → Option Spec} {f : FuncId} {args : List Value} {rows rows' : List Row} {v : Value} (hM : LMOk E rows.length M) {n : Nat} {vc : Prop}
    (hvc : mcall E M n f args ⟨mkR (nums 0 rows), rows.length⟩ (retIs rows.length v rows') = vc) (h : vc) : Con E.P f args rows v rows' := con_of hm ho hL hM (hvc.mpr h)
end
theorem ofNat_eq (n : Nat) : (Int.ofNat n : Int) = (n : Int) := rfl
theorem i64_succ {n : Nat} (h : n < 9223372036854775807) : IntKind.i64.wrap ((n : Int) + 1) = ((n + 1 : Nat) : Int) := by rw [wr64_id (by unfold I64; omega)]; omega
theorem toNat_cast (n : Nat) : Int.toNat (n : Int) = n := Int.toNat_natCast n
theorem br_dec {P : Prop} [Decidable P] {p q : Prop} (h : P) (k : p) : br (decide P) p q := by rw [decide_eq_true h]; exact k
theorem br_nd {P : Prop} [Decidable P] {p q : Prop} (h : ¬ P) (k : q) : br (decide P) p q := by rw [decide_eq_false h]; exact k
theorem br_b {b : Bool} {p q : Prop} (h : b = true) (k : p) : br b p q := by subst h; exact k
theorem br_nb {b : Bool} {p q : Prop} (h : b = false) (k : q) : br b p q := by subst h; exact k
theorem br_if {P : Prop} [Decidable P] {p q : Prop} (h : P → p) (k : ¬ P → q) : br (decide P) p q := br_intro (fun e => h (of_decide_eq_true e)) (fun e => k (of_decide_eq_false e))
theorem br_side {p q : Prop} (h : p) (k : q) : ∀ side : Bool, br side p q := fun side => by cases side; exact k; exact h
theorem cells_int (k : IntKind) (n : Int) : (Value.int k n).cells.toList = [Value.int k n] := rfl
theorem u8_toNat_ofNat {n : Nat} (h : n < 256) : (UInt8.ofNat n).toNat = n := by simp [UInt8.toNat_ofNat']; omega
def bVal (b : UInt8) : Value := .int .u8 b.toNat
def bCells (l : List UInt8) : List Value := l.map bVal
def bRo (l : List UInt8) : Row := ⟨bCells l, true, .cells true⟩
def bOwn (l : List UInt8) : Row := ⟨bCells l, false, .cells true⟩
def iCells (k : IntKind) (l : List Int) : List Value := l.map (Value.int k)
theorem bCells_len (l : List UInt8) : (bCells l).length = l.length := by simp [bCells]
theorem bCells_app (a b : List UInt8) : bCells a ++ bCells b = bCells (a ++ b) := by simp [bCells]
theorem bCells_drop (l : List UInt8) (n : Nat) : (bCells l).drop n = bCells (l.drop n) := by simp [bCells]
theorem bCells_take (l : List UInt8) (n : Nat) : (bCells l).take n = bCells (l.take n) := by simp [bCells]
theorem bCells_plain (l : List UInt8) : Plain (bCells l) := by
  intro v hv; obtain ⟨b, _, rfl⟩ := List.mem_map.1 hv; rfl
theorem bCells_one (l : List UInt8) : allOne (bCells l) = true := by
  induction l with
  | nil => rfl
  | cons b l ih => simp only [bCells, List.map_cons, allOne] at ih ⊢; rw [ih]; rfl
theorem bCells_all (l : List UInt8) : AllB (bCells l) := by
  intro v hv; obtain ⟨b, _, rfl⟩ := List.mem_map.1 hv; exact ⟨_, rfl⟩
theorem bCells_bOf (l : List UInt8) : (bCells l).map bOf = l := by
  rw [bCells, List.map_map]
  have : bOf ∘ bVal = id := by funext b; simp [bOf, bVal]
  rw [this, List.map_id]
theorem bCells_get {l : List UInt8} {i : Nat} (h : i < l.length) : (bCells l)[i]? = some (.int .u8 (l.getD i 0).toNat) := by
  simp [bCells, bVal, List.getElem?_eq_getElem h, List.getD]
theorem bCells_cell {l : List UInt8} {i : Nat} (h : i < l.length) : cellI (bCells l) i = (l.getD i 0).toNat := by
  unfold cellI; rw [bCells_get h]
theorem bCells_ovr (l : List UInt8) (i : Nat) (vs : List UInt8) : ovr (bCells l) i (bCells vs) = bCells (l.take i ++ (vs ++ l.drop (i + vs.length))) := by
  simp [ovr, bCells]
theorem ovr_set {l : List UInt8} {i : Nat} (h : i < l.length) (b : UInt8) : l.take i ++ ([b] ++ l.drop (i + 1)) = l.set i b := by
  rw [List.set_eq_take_append_cons_drop, if_pos h]; simp
theorem bVal_nat {n : Nat} (h : n < 256) : Value.int .u8 (n : Int) = bVal (UInt8.ofNat n) := by unfold bVal; rw [u8_toNat_ofNat h]
def slc (r n : Nat) : Value := .slice (some ⟨r, 0, none⟩) n 1
def dB (r : Row) : List UInt8 := r.cells.map bOf
theorem dB_ro (l : List UInt8) : dB (bRo l) = l := bCells_bOf l
theorem dB_mk (l : List UInt8) (ro : Bool) (o : Ob) : dB ⟨bCells l, ro, o⟩ = l := bCells_bOf l
end
end Go.Sy
