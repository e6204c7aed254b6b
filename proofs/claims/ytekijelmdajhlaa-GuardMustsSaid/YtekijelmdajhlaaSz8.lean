/- An evaluator of the model's code, sound for every world, second edition: part 8. -/
import Derived.Test.YtekijelmdajhlaaSz7
namespace Go.Sy
noncomputable section
open Go.Ev Go.RowKit
def cT (P : Program) : Nat → TypeId → Option (List TypeId)
  | 0, _ => none
  | d + 1, t =>
    match P.underlying t with
    | some (.struct fs) => fs.toList.foldr (fun f r => match cT P d f.type, r with | some a, some b => some (a ++ b) | _, _ => none) (some [])
    | some (.array n el) => (match cT P d el with | some a => some ((List.replicate n a).flatten) | none => none)
    | some _ => some [t]
    | none => none
structure Cn where
  v : Value
  rows : List Row
  bk : List (Option (Nat × Nat))
  p : Prop
structure Cns where
  vs : List Value
  rows : List Row
  bk : List (Option (Nat × Nat))
  p : Prop
def bMany (f : Value → Option Value) : List Value → Option (List Value)
  | [] => some []
  | v :: r => match f v, bMany f r with | some a, some b => some (a :: b) | _, _ => none
section
variable {B : Base} {μ : Mu} {w : World} {P : Program}
open Classical in
def gMu (μ : Mu) : Mu := fun r => if ∃ z i, r = gAt z i then μ r else none
theorem gMu_at (μ : Mu) (z i : Nat) : gMu μ (gAt z i) = μ (gAt z i) := by unfold gMu; rw [if_pos ⟨z, i, rfl⟩]
theorem gMu_out (μ : Mu) {r : Nat} (h : ∀ z i, r ≠ gAt z i) : gMu μ r = none := by unfold gMu; rw [if_neg (fun ⟨z, i, e⟩ => h z i e)]
theorem lt_noG {r : Nat} (h : r < Tr.top) : ∀ z i, r ≠ gAt z i := fun z i e => by have := gAt_ge z i; omega
def cMu (μ : Mu) (bk : List (Option (Nat × Nat))) : Mu := fun i => match bk[i]? with
  | some (some (r, d)) => (match μ r with | some (b, o, s) => some (b, o + d, s) | none => none)
  | some none => some (0, 0, 0)
  | none => gMu μ i
theorem cMu_g (μ : Mu) {bk : List (Option (Nat × Nat))} (h : bk.length ≤ Tr.top) (z i : Nat) : cMu μ bk (gAt z i) = μ (gAt z i) := by
  unfold cMu
  rw [List.getElem?_eq_none (by have := gAt_ge z i; omega)]
  exact gMu_at μ z i
theorem cMu_only (μ : Mu) (bk : List (Option (Nat × Nat))) : OnlyG bk.length (cMu μ bk) := fun r hr hg => by
  unfold cMu; rw [List.getElem?_eq_none hr]; exact gMu_out μ hg
def cOk (μ : Mu) (w : World) (row : Row) (x : Option (Nat × Nat)) : Prop :=
  row.ro = true ∧ (∃ s, row.ob = .cells s) ∧ (row.cells = [] ∧ (∀ r d, x = some (r, d) → ∃ q, μ r = some q) ∨
    ∃ r d b o s c e fr, x = some (r, d) ∧ μ r = some (b, o, s) ∧ b < w.heap.size ∧ w.heap[b]? = some (.cells c e fr) ∧ c.size = s ∧ o + d + row.cells.length ≤ s ∧ Plain row.cells ∧ VRs μ row.cells ((c.toList.drop (o + d)).take row.cells.length))
theorem wr_mu {n : Nat} {F : Nat → Option Row} (hw : WR B μ F n w) {r : Nat} {row : Row} (hr : F r = some row) : ∃ q, μ r = some q := by
  cases hv : row.void with
  | true => obtain ⟨b, o, s, h, _⟩ := hw.vrow r row hr hv; exact ⟨_, h⟩
  | false => obtain ⟨b, o, s, x, h, _⟩ := (hw.rows r row hr hv).mu; exact ⟨_, h⟩
def COk (μ : Mu) (w : World) (i : Nat) (vs : List Value) (rows : List Row) (bk : List (Option (Nat × Nat))) (ws : List Value) : Prop :=
  rows.length = bk.length ∧ (∀ (j : Nat) row x, rows[j]? = some row → bk[j]? = some x → cOk μ w row x) ∧
  ∀ μ' : Mu, (∀ j, j < bk.length → μ' (i + j) = cMu μ bk j) → VRs μ' vs ws
theorem COk.append {i : Nat} {vs1 vs2 : List Value} {rows1 rows2 : List Row} {bk1 bk2 : List (Option (Nat × Nat))} {ws1 ws2 : List Value} (h : COk μ w i vs1 rows1 bk1 ws1) (k : COk μ w (i + bk1.length) vs2 rows2 bk2 ws2) :
    COk μ w i (vs1 ++ vs2) (rows1 ++ rows2) (bk1 ++ bk2) (ws1 ++ ws2) := by
  obtain ⟨a1, a2, a3⟩ := h
  obtain ⟨b1, b2, b3⟩ := k
  refine ⟨by simp [a1, b1], fun j row x hr hx => ?_, fun μ' hμ => ?_⟩
  · by_cases hj : j < bk1.length
    · rw [List.getElem?_append_left (by omega)] at hr
      rw [List.getElem?_append_left hj] at hx
      exact a2 j row x hr hx
    · rw [List.getElem?_append_right (by omega)] at hr hx
      rw [a1] at hr
      exact b2 _ row x hr hx
  · refine (a3 μ' fun j hj => ?_).append (b3 μ' fun j hj => ?_)
    · rw [hμ j (by simp; omega)]
      unfold cMu
      rw [List.getElem?_append_left hj]
    · have := hμ (bk1.length + j) (by simp; omega)
      rw [show i + bk1.length + j = i + (bk1.length + j) by omega, this]
      unfold cMu
      rw [List.getElem?_append_right (by omega), show bk1.length + j - bk1.length = j by omega, List.getElem?_eq_getElem hj]
      rcases bk2[j] with _ | ⟨r, d⟩ <;> rfl
theorem nums_find : ∀ (l : List Row) (i r : Nat), i + l.length ≤ Tr.top → (mkR (nums i l)).find r = if i ≤ r then l[r - i]? else none := by
  intro l
  induction l with
  | nil => intro i r _; simp [nums, mkR, Tr.find]
  | cons x l ih =>
    intro i r h
    simp only [List.length_cons] at h
    simp only [nums, mkR]
    rw [Tr.find_put _ _ _ _ (by omega), ih _ _ (by omega)]
    by_cases e : r = i
    · subst e; simp
    · rw [if_neg e]
      by_cases h2 : i + 1 ≤ r
      · rw [if_pos h2, if_pos (by omega)]
        obtain ⟨k, hk⟩ : ∃ k, r - i = k + 1 := ⟨r - i - 1, by omega⟩
        rw [hk, List.getElem?_cons_succ, show r - (i + 1) = k by omega]
      · rw [if_neg h2, if_neg (by omega)]
theorem plain_vrs {μ μ' : Mu} (hG : GLe μ μ') {l ws : List Value} (h : Plain l) (hv : VRs μ l ws) : VRs μ' l ws :=
  (h.rns (R := fun _ _ _ => False)).here (fun _ _ _ h => h.elim) hG hv
theorem COk.wr {vs : List Value} {rows : List Row} {bk : List (Option (Nat × Nat))} {ws : List Value} (hc : COk μ w 0 vs rows bk ws) {n : Nat} {F : Nat → Option Row} (hw : WR B μ F n w) (htop : rows.length ≤ Tr.top) :
    WR ⟨fun b => w.heap.size ≤ b, fun _ => False⟩ (cMu μ bk) (mkR (nums 0 rows)).find rows.length w := by
  obtain ⟨h1, h2, _⟩ := hc
  have at' : ∀ r row, (mkR (nums 0 rows)).find r = some row → rows[r]? = some row ∧ ∃ x, bk[r]? = some x ∧ cOk μ w row x := by
    intro r row h
    rw [nums_find _ _ _ (by omega), if_pos (Nat.zero_le _)] at h
    simp only [Nat.sub_zero] at h
    have hr := (List.getElem?_eq_some_iff.1 h).1
    exact ⟨h, _, List.getElem?_eq_getElem (by omega), h2 r row _ h (List.getElem?_eq_getElem (by omega))⟩
  have hgl : GLe μ (cMu μ bk) := fun z i _ h => (cMu_g μ (by omega) z i).trans h
  refine ⟨fun b hb => hb, fun _ hz => hz.elim, fun r hr hr2 => ?_, fun r row hr hv => ?_, fun r row hr hv => ?_, fun r q x y b o s o' s' hx hy hxv hyv hxr hyr => ?_,
    fun z i b o s hm => ⟨gIn_g hgl (hw.gho z i b o s ((cMu_g μ (by omega) z i).symm.trans hm)).1, fun ⟨r, row, _, _, g1, _, g3, _⟩ => by obtain ⟨_, _, _, hro, _⟩ := at' r row g1; rw [hro] at g3; simp at g3⟩,
    by obtain ⟨K, hK⟩ := hw.gfr; exact ⟨K, fun z i hi => (cMu_g μ (by omega) z i).trans (hK z i hi)⟩⟩
  · exact cMu_only μ bk r (by omega) (lt_noG hr2)
  · obtain ⟨_, x, hx, hro, ⟨sy, hob⟩, hcase⟩ := at' r row hr
    obtain ⟨cells, ro, ob⟩ := row
    subst hro; subst hob
    rcases hcase with ⟨h, _⟩ | ⟨r', d, b, o, s, c, e, ⟨lo, hi⟩, e1, g1, g2, g3, g4, g5, g6, g7⟩
    · subst h; simp [Row.void] at hv
    · refine ⟨b, o + d, s, c, e, lo, hi, ?_, g3, g4, g5, plain_vrs hgl g6 g7, fun h => by simp at h, fun _ => by show ¬ (w.heap.size ≤ b); omega⟩
      unfold cMu; rw [hx, e1]; simp only; rw [g1]
  · obtain ⟨_, x, hx, hro, ⟨sy, hob⟩, hcase⟩ := at' r row hr
    have hm : ∃ b o s, cMu μ bk r = some (b, o, s) := by
      unfold cMu; rw [hx]
      cases x with
      | none => exact ⟨_, _, _, rfl⟩
      | some x =>
        obtain ⟨r', d⟩ := x
        have : ∃ q, μ r' = some q := by
          rcases hcase with ⟨_, h⟩ | ⟨r2, d2, b, o, s, c, e, fr, e1, g1, _⟩
          · exact h r' d rfl
          · simp at e1; obtain ⟨rfl, rfl⟩ := e1; exact ⟨_, g1⟩
        obtain ⟨⟨b, o, s⟩, hq⟩ := this
        simp only; rw [hq]; exact ⟨_, _, _, rfl⟩
    obtain ⟨b, o, s, hm⟩ := hm
    exact ⟨b, o, s, hm, fun h => by rw [hro] at h; simp at h⟩
  · obtain ⟨_, z, _, hro, _⟩ := at' r x hx
    rw [hro] at hxr; simp at hxr
theorem bMany_spec {f : Value → Option Value} : ∀ (x l : List Value), bMany f x = some l → x.length = l.length ∧ ∀ (i : Nat) a b, x[i]? = some a → l[i]? = some b → f a = some b := by
  intro x
  induction x with
  | nil => intro l h; simp [bMany] at h; subst h; exact ⟨rfl, fun i a b h => by simp at h⟩
  | cons v x ih =>
    intro l h
    simp only [bMany] at h
    split at h
    · rename_i a b h1 h2
      simp only [Option.some.injEq] at h; subst h
      obtain ⟨k1, k2⟩ := ih _ h2
      refine ⟨by simp [k1], fun i p q hp hq => ?_⟩
      cases i with
      | zero => simp at hp hq; subst hp; subst hq; exact h1
      | succ i => simp at hp hq; exact k2 i p q hp hq
    · simp at h
theorem bMany_vrs {μ' μ2 : Mu} {f : Value → Option Value} (hf : ∀ v v' w, f v = some v' → VR μ' v w → VR μ2 v' w) {x l ws : List Value} (h : bMany f x = some l) (hv : VRs μ' x ws) : VRs μ2 l ws := by
  obtain ⟨h1, h2⟩ := bMany_spec _ _ h
  refine ⟨h1.symm.trans hv.1, fun i a b ha hb => ?_⟩
  have hi := (List.getElem?_eq_some_iff.1 ha).1
  have hx : i < x.length := by omega
  exact hf _ _ _ (h2 i _ a (List.getElem?_eq_getElem hx) ha) (hv.2 i _ b (List.getElem?_eq_getElem hx) hb)
end
end
end Go.Sy
namespace Go.Sy
noncomputable section
open Go.Ev Go.RowKit
def I64 (n : Int) : Prop := -9223372036854775808 ≤ n ∧ n ≤ 9223372036854775807
def Small (l : Int) : Prop := -1152921504606846976 ≤ l ∧ l ≤ 1152921504606846976
theorem Small.i64 {l : Int} (h : Small l) : I64 l := by unfold Small at h; unfold I64; omega
def noM : FuncId → List Nat → Option Spec := fun _ _ => none
theorem lm_none {E : Env} {n0 : Nat} : LMOk E n0 noM := fun f p _ _ _ _ hl => by simp [noM] at hl
def codeOf (P : Program) (f : FuncId) (p : List Nat) : Code :=
  match P.funcs[f]? with
  | some fn => (match fn.body with | some c => (match codeAt c p with | some c => c | none => .skip) | none => .skip)
  | none => .skip
theorem codeOf_eq {P : Program} {f : FuncId} {p : List Nat} {fn : Func} {c0 c : Code} (hf : P.funcs[f]? = some fn) (hb : fn.body = some c0) (hc : codeAt c0 p = some c) : codeOf P f p = c := by
  unfold codeOf; rw [hf]; simp only [hb, hc]
def loopAt (P : Program) (f : FuncId) (p : List Nat) : Bool :=
  match P.funcs[f]? with
  | some fn => (match fn.body with | some c => (match codeAt c p with | some (.loop _) => true | _ => false) | none => false)
  | none => false
theorem loop_of {P : Program} {f : FuncId} {p : List Nat} {fn : Func} {c0 c : Code} (h : loopAt P f p = true) (hf : P.funcs[f]? = some fn) (hb : fn.body = some c0) (hc : codeAt c0 p = some c) : ∃ b, c = .loop b ∧ codeAt c0 (0 :: p) = some b := by
  unfold loopAt at h
  rw [hf] at h
  simp only [hb, hc] at h
  cases c <;> simp at h
  exact ⟨_, rfl, by simp only [codeAt, hc]⟩
def mOf : List (FuncId × List Nat × Spec) → FuncId → List Nat → Option Spec
  | [], _, _ => none
  | x :: r, f, p => bif Nat.beq x.1 f && decide (x.2.1 = p) then some x.2.2 else mOf r f p
def PieceOk (E : Env) (n0 : Nat) (x : FuncId × List Nat × Spec) : Prop :=
  ∀ fn c0 c, E.P.funcs[x.1]? = some fn → fn.body = some c0 → codeAt c0 x.2.1 = some c → ∀ fr u h K, x.2.2 fr u h K → OkM E n0 false c fr u h K
theorem lm_of {E : Env} {n0 : Nat} : ∀ (l : List (FuncId × List Nat × Spec)), (∀ x ∈ l, PieceOk E n0 x) → LMOk E n0 (mOf l) := by
  intro l
  induction l with
  | nil => intro _ f p spec fn c0 c hl; simp [mOf] at hl
  | cons x r ih =>
    intro hx f p spec fn c0 c hl hf hb hc
    simp only [mOf] at hl
    cases hq : (Nat.beq x.1 f && decide (x.2.1 = p)) with
    | false => rw [hq] at hl; exact ih (fun y hy => hx y (by simp [hy])) f p spec fn c0 c hl hf hb hc
    | true =>
      rw [hq] at hl
      simp only [cond_true, Option.some.injEq] at hl
      simp only [Bool.and_eq_true, decide_eq_true_eq] at hq
      obtain ⟨h1, h2⟩ := hq
      have h1 := Nat.eq_of_beq_eq_true h1
      subst h1; subst h2; subst hl
      exact hx x (by simp) fn c0 c hf hb hc
theorem lm_one {E : Env} {n0 : Nat} {x : FuncId × List Nat × Spec} (h : PieceOk E n0 x) : LMOk E n0 (mOf [x]) := lm_of _ fun y hy => by simp at hy; subst hy; exact h
section
variable {E : Env} {n0 : Nat}
theorem okM_of_mev (hm : E.P.follows .mixedOrders = true) (ho : CallsOk E.P (oOf E)) (hL : LOk E) {M : FuncId → List Nat → Option Spec} (hM : LMOk E n0 M) {f : FuncId} {fn : Func} {c0 c : Code} {p : List Nat} (hf : E.P.funcs[f]? = some fn) (hb : fn.body = some c0)
    (hc : codeAt c0 p = some c) {n : Nat} {fr : Fr} {u : Option FrameMode} {h : Hp} {K : KO} (hs : mev E M n f p false (codeOf E.P f p) fr u h K) : OkM E n0 false c fr u h K := by
  rw [codeOf_eq hf hb hc] at hs
  exact mev_okM hm ho hL hM n f fn c0 hf hb p false c fr u h K (by simpa using hc) hs
theorem con_vc (hm : E.P.follows .mixedOrders = true) (ho : CallsOk E.P (oOf E)) (hL : LOk E) {M : FuncId → List Nat → Option Spec} {f : FuncId} {args : List Value} {rows rows' : List Row} {v : Value} (hM : LMOk E rows.length M) {n : Nat} {vc : Prop}
    (hvc : mcall E M n f args ⟨mkR (nums 0 rows), rows.length⟩ (retIs rows.length v rows') = vc) (h : vc) : Con E.P f args rows v rows' := con_of hm ho hL hM (hvc.mpr h)
end
theorem br_dec {P : Prop} [Decidable P] {p q : Prop} (h : P) (k : p) : br (decide P) p q := by rw [decide_eq_true h]; exact k
theorem br_nd {P : Prop} [Decidable P] {p q : Prop} (h : ¬ P) (k : q) : br (decide P) p q := by rw [decide_eq_false h]; exact k
theorem br_b {b : Bool} {p q : Prop} (h : b = true) (k : p) : br b p q := by subst h; exact k
theorem br_nb {b : Bool} {p q : Prop} (h : b = false) (k : q) : br b p q := by subst h; exact k
theorem br_if {P : Prop} [Decidable P] {p q : Prop} (h : P → p) (k : ¬ P → q) : br (decide P) p q := br_intro (fun e => h (of_decide_eq_true e)) (fun e => k (of_decide_eq_false e))
theorem br_side {p q : Prop} (h : p) (k : q) : ∀ side : Bool, br side p q := fun side => by cases side; exact k; exact h
end
end Go.Sy
