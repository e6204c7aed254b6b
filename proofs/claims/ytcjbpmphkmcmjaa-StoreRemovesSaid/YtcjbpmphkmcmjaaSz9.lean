/- An evaluator of the model's code, sound for every world, second edition: part 9. -/
import Derived.Test.YtcjbpmphkmcmjaaSz8
import Derived.ChangeSlices
namespace Go.Sy
noncomputable section
open Go.Ev Go.RowKit
inductive Kd where
  | b | i (k : IntKind) | f (k : FloatKind) | s
def kFold (P : Program) (g : TypeId → Option (List Kd)) : List Field → Nat → Option (List Kd)
  | [], _ => some []
  | f :: r, off =>
    match g f.type with
    | some ks => bif Nat.beq f.offset off && Nat.beq (P.cellsOf f.type) ks.length then (match kFold P g r (off + ks.length) with | some l => some (ks ++ l) | none => none) else none
    | none => none
def kT (P : Program) : Nat → TypeId → Option (List Kd)
  | 0, _ => none
  | d + 1, t =>
    match P.underlying t with
    | some .bool => some [.b]
    | some (.int k) => some [.i k]
    | some (.float k) => some [.f k]
    | some .string => some [.s]
    | some (.struct fs) => kFold P (kT P d) fs.toList 0
    | _ => none
def CellIs : Kd → Value → Prop
  | .b, .bool _ => True
  | .i k, .int k' n => k' = k ∧ (Lit.int k n).wf = true
  | .f k, .float k' _ => k' = k
  | .s, .string s => s.size ≤ maxLen
  | _, _ => False
def Cells : List Kd → List Value → Prop
  | [], [] => True
  | k :: ks, v :: vs => CellIs k v ∧ Cells ks vs
  | _, _ => False
theorem Cells.len : ∀ {ks : List Kd} {vs : List Value}, Cells ks vs → vs.length = ks.length := by
  intro ks
  induction ks with
  | nil => intro vs h; cases vs with | nil => rfl | cons => exact h.elim
  | cons k ks ih => intro vs h; cases vs with | nil => exact h.elim | cons v vs => simp [ih h.2]
theorem Cells.append : ∀ {ks : List Kd} {vs : List Value} {k2 : List Kd} {v2 : List Value}, Cells ks vs → Cells k2 v2 → Cells (ks ++ k2) (vs ++ v2) := by
  intro ks
  induction ks with
  | nil => intro vs k2 v2 h k; cases vs with | nil => exact k | cons => exact h.elim
  | cons q ks ih => intro vs k2 v2 h k; cases vs with | nil => exact h.elim | cons v vs => exact ⟨h.1, ih h.2 k⟩
def noA : Nat → Value → Bool
  | 0, _ => false
  | _ + 1, .bool _ | _ + 1, .int _ _ | _ + 1, .float _ _ | _ + 1, .map none | _ + 1, .complex _ _ _ | _ + 1, .string _ | _ + 1, .pointer none | _ + 1, .nilFunc | _ + 1, .nilIface => true
  | _ + 1, .slice none 0 0 => true
  | n + 1, .iface _ v => noA n v
  | n + 1, .agg x | n + 1, .tuple x => x.toList.all (noA n)
  | n + 1, .func _ x y => x.toList.all (noA n) && y.toList.all (noA n)
  | _, _ => false
def PlainA (l : List Value) : Prop := ∀ v ∈ l, noA 12 v = true
theorem CellIs.plain {k : Kd} {v : Value} (h : CellIs k v) : noA 12 v = true := by
  cases k <;> cases v <;> first | rfl | exact h.elim
theorem Cells.plain : ∀ {ks : List Kd} {vs : List Value}, Cells ks vs → PlainA vs := by
  intro ks
  induction ks with
  | nil => intro vs h; cases vs with | nil => intro v hv; simp at hv | cons => exact h.elim
  | cons q ks ih =>
    intro vs h
    cases vs with
    | nil => exact h.elim
    | cons v vs =>
      intro x hx
      rcases List.mem_cons.1 hx with rfl | hx
      · exact h.1.plain
      · exact ih h.2 x hx
section
variable {H : Type} {enc : TypeId × Value → H} {P : Program} {w : World} {base : Nat} {spare : Nat → Bool} {held : Bool}
def Elems (ks : List Kd) (n : Nat) (cells : List Value) : Prop := ∃ L : List (List Value), L.length = n ∧ cells = L.flatten ∧ ∀ c ∈ L, Cells ks c
theorem Elems.len {ks : List Kd} {n : Nat} {cells : List Value} (h : Elems ks n cells) : cells.length = n * ks.length := by
  obtain ⟨L, rfl, rfl, hc⟩ := h
  induction L with
  | nil => simp
  | cons c L ih =>
    rw [List.flatten_cons, List.length_append, ih (fun x hx => hc x (by simp [hx])), (hc c (by simp)).len, List.length_cons, Nat.add_mul]; omega
theorem Elems.plain {ks : List Kd} {n : Nat} {cells : List Value} (h : Elems ks n cells) : PlainA cells := by
  obtain ⟨L, rfl, rfl, hc⟩ := h
  intro v hv
  obtain ⟨c, hc1, hc2⟩ := List.mem_flatten.1 hv
  exact (hc c hc1).plain v hc2
theorem Elems.data {α : Type} {ks : List Kd} {n : Nat} {cells : List Value} (h : Elems ks n cells) (en : α → List Value) (Q : α → Prop) (hq : ∀ c, Cells ks c → ∃ a, c = en a ∧ Q a) :
    ∃ l : List α, l.length = n ∧ cells = l.flatMap en ∧ ∀ a ∈ l, Q a := by
  obtain ⟨L, rfl, rfl, hc⟩ := h
  induction L with
  | nil => exact ⟨[], rfl, rfl, fun a ha => by simp at ha⟩
  | cons c L ih =>
    obtain ⟨l, h1, h2, h3⟩ := ih (fun x hx => hc x (by simp [hx]))
    obtain ⟨a, ha, hqa⟩ := hq c (hc c (by simp))
    refine ⟨a :: l, by simp [h1], by rw [List.flatten_cons, List.flatMap_cons, h2, ha], fun b hb => ?_⟩
    rcases List.mem_cons.1 hb with rfl | hb
    · exact hqa
    · exact h3 b hb
def LawRow (W : World) (cells : List Value) (I : Nat × Nat × Nat) : Prop :=
  PlainA cells ∧ (cells = [] ∨ ∃ c e fr, W.heap[I.1]? = some (.cells c e fr) ∧ c.size = I.2.2 ∧ I.2.1 + cells.length ≤ I.2.2 ∧ cells = (c.toList.drop I.2.1).take cells.length)
theorem cells_at {blk off n : Nat} {c : Array Value} {el : TypeId} {fr : Nat × Nat} {l : List Value} (hb : w.heap[blk]? = some (.cells c el fr)) (h : w.cells? base ⟨blk, off, none⟩ n = some l) (hn : 0 < n) :
    off + n ≤ c.size ∧ l = (c.toList.drop off).take n := by
  unfold World.cells? at h
  split at h
  · have hl := mapM_some_length h
    rw [List.length_range] at hl
    have hg : ∀ j, j < n → c[off + j]? = l[j]? := by
      intro j hj
      have := mapM_some_get h j j (by simp [List.getElem?_range hj])
      rw [← this, add_none, cell_at hb]
    have hsz : off + n ≤ c.size := by
      have := hg (n - 1) (by omega)
      rw [List.getElem?_eq_getElem (by omega)] at this
      have := (Array.getElem?_eq_some_iff.1 this).1
      omega
    refine ⟨hsz, List.ext_getElem? fun j => ?_⟩
    rw [List.getElem?_take]
    split
    · rename_i hj
      rw [List.getElem?_drop, ← hg j hj]; simp
    · rw [List.getElem?_eq_none (by omega)]
  · simp at h
theorem chunks {α : Type} (l : List α) (off m : Nat) : ∀ n, (l.drop off).take (n * m) = ((List.range n).map fun i => (l.drop (off + i * m)).take m).flatten := by
  intro n
  induction n with
  | zero => simp
  | succ n ih =>
    rw [List.range_succ, List.map_append, List.flatten_append, ← ih, Nat.succ_mul, List.take_add, List.drop_drop]
    simp
end
theorem plain_refl {μ : Mu} : ∀ (n : Nat) (v : Value), noA n v = true → VR μ v v := by
  intro n
  induction n with
  | zero => intro v h; simp [noA] at h
  | succ n ih =>
    intro v h
    have all : ∀ x : Array Value, x.toList.all (noA n) = true → ∀ i (h : i < x.size) (h' : i < x.size), VR μ x[i] x[i] := by
      intro x hx i h1 _
      rw [List.all_eq_true] at hx
      exact ih _ (hx _ (by simp))
    cases v with
    | pointer a => cases a with
      | none => exact .pnil
      | some a => simp [noA] at h
    | slice a n c => cases a with
      | none => cases n <;> cases c <;> first | exact .snil | simp [noA] at h
      | some a => simp [noA] at h
    | iface t v => exact .iface t v v (ih _ (by simpa [noA] using h))
    | agg x => exact .agg x x rfl (all x (by simpa only [noA] using h))
    | tuple x => exact .tuple x x rfl (all x (by simpa only [noA] using h))
    | func fn x y =>
      simp only [noA, Bool.and_eq_true] at h
      exact .func fn x y x y rfl rfl (all x h.1) (all y h.2)
    | map r => cases r with
      | none => exact .mnil
      | some r => simp [noA] at h
    | chan r => simp [noA] at h
    | _ => first | constructor | simp [noA] at h
theorem con_flat {P : Program} {f : FuncId} {args : List Value} {v : Value} (hf : args.all (flat 12) = true) (hv : flat 12 v = true) (h : Flat P f args v) : Con P f args [] v [] := by
  intro B μ w args' h1 h2 hw hargs hok
  rw [flat_args hf hargs]
  refine (h w hw.tab.1).mono ?_
  rintro e w' ⟨rfl, hb⟩
  obtain ⟨k1, k2⟩ := wr_below hw hb
  exact ⟨μ, Le.refl _, k1, k2, flat_refl _ _ hv⟩
theorem con_run {P : Program} (hm : P.follows .mixedOrders = true) {n : Nat} {f : FuncId} (hok : okFn P f = true) (h : ret? (Ev.run P n f [] ⟨.leaf, 0⟩) = some (.bool true)) : Con P f [] [] (.bool true) [] :=
  con_flat rfl rfl fun w hT => run_closed hm hok (args := []) rfl rfl h w hT
theorem lr_nil {W : World} : ∀ (r : Nat) (cells : List Value) i, ([] : List (List Value))[r]? = some cells → ([] : List (Nat × Nat × Nat))[r]? = some i → LawRow W cells i := fun r cells i h => by simp at h
theorem lr_cons {W : World} {c : List Value} {L : List (List Value)} {i : Nat × Nat × Nat} {I : List (Nat × Nat × Nat)} (h : LawRow W c i) (k : ∀ (r : Nat) cells i, L[r]? = some cells → I[r]? = some i → LawRow W cells i) :
    ∀ (r : Nat) cells i', (c :: L)[r]? = some cells → (i :: I)[r]? = some i' → LawRow W cells i' := by
  intro r cells i' h1 h2
  cases r with
  | zero => simp at h1 h2; subst h1; subst h2; exact h
  | succ r => simp at h1 h2; exact k r cells i' h1 h2
theorem flatMap_one {α : Type} (f : α → Value) (l : List α) : l.flatMap (fun a => [f a]) = l.map f := by
  induction l with
  | nil => rfl
  | cons a l ih => rw [List.flatMap_cons, ih]; rfl
theorem elems_ints {k : IntKind} {n : Nat} {cells : List Value} (h : Elems [.i k] n cells) : ∃ l : List Int, l.length = n ∧ cells = iCells k l ∧ ∀ x ∈ l, (Lit.int k x).wf = true := by
  obtain ⟨l, h1, h2, h3⟩ := h.data (α := Int) (fun b => [.int k b]) (fun x => (Lit.int k x).wf = true) (fun c hc => by
    match c, hc with
    | [.int k' z], hc =>
      obtain ⟨⟨rfl, hw⟩, _⟩ := hc
      exact ⟨z, rfl, hw⟩)
  exact ⟨l, h1, by rw [h2]; exact flatMap_one _ _, h3⟩
def roRow (c : List Value) : Row := ⟨c, true, .cells true⟩
theorem law_con {P : Program} {f : FuncId} (hok : okFn P f = true) {args : List Value} {args' : Array Value} {L : List (List Value)} {I : List (Nat × Nat × Nat)} {W : World} (hlen : L.length ≤ 100)
    (hcon : Con P f args (L.map roRow) (.bool true) (L.map roRow)) (hI : ∀ (r : Nat) cells i, L[r]? = some cells → I[r]? = some i → LawRow W cells i) (hI2 : I.length = L.length) (hargs : VRs (fun r => I[r]?) args args'.toList) (hT : TabW W) :
    Calls P f args' W fun e W' => e = .returned (.bool true) ∧ Below W.heap.size W W' := by
  have at' : ∀ r row, (mkR (nums 0 (L.map roRow))).find r = some row → ∃ cells i, row = roRow cells ∧ I[r]? = some i ∧ LawRow W cells i := by
    intro r row hr
    rw [nums_find _ _ _ (by simp; unfold Tr.top; omega), if_pos (Nat.zero_le _), Nat.sub_zero, List.getElem?_map, Option.map_eq_some_iff] at hr
    obtain ⟨cells, h1, h2⟩ := hr
    have hlt := (List.getElem?_eq_some_iff.1 h1).1
    exact ⟨cells, I[r], h2.symm, List.getElem?_eq_getElem (by omega), hI r cells _ h1 (List.getElem?_eq_getElem (by omega))⟩
  have hgn : ∀ z i, I[gAt z i]? = none := fun z i => List.getElem?_eq_none (by have := gAt_ge z i; unfold Tr.top at this; omega)
  have hw : WR ⟨fun b => W.heap.size ≤ b, fun _ => False⟩ (fun r => I[r]?) (mkR (nums 0 (L.map roRow))).find (L.map roRow).length W := by
    refine ⟨fun b hb => hb, fun _ hz => hz.elim, fun r hr _ => ?_, fun r row hr hv => ?_, fun r row hr hv => ?_, fun r q x y b o s o' s' hx hy hxv hyv hxr hyr => ?_, fun z i b o s hm => absurd hm (by rw [hgn]; simp), ⟨0, fun z i _ => hgn z i⟩, TabOk.base hT⟩
    · rw [List.getElem?_eq_none_iff, hI2]; simpa using hr
    · obtain ⟨cells, ⟨b, o, s⟩, rfl, h2, hpl, h3⟩ := at' r row hr
      rcases h3 with h3 | ⟨c, e, ⟨lo, hi⟩, h4, h5, h6, h7⟩
      · subst h3; simp [roRow, Row.void] at hv
      · refine ⟨b, o, s, c, e, lo, hi, h2, h4, h5, h6, ?_, fun h => by simp [roRow] at h, fun _ => ?_⟩
        · simp only [roRow]; simp only at h7
          refine ⟨by rw [← h7], fun i v v' g1 g2 => ?_⟩
          rw [← h7] at g2
          rw [g1] at g2
          simp only [Option.some.injEq] at g2
          subst g2
          have := hpl v (List.mem_of_getElem? g1)
          exact plain_refl 12 v this
        · show ¬ (W.heap.size ≤ b)
          have := (Array.getElem?_eq_some_iff.1 h4).1
          simp only at this; omega
    · obtain ⟨cells, ⟨b, o, s⟩, rfl, h2, _⟩ := at' r row hr
      exact ⟨b, o, s, h2, fun h => by simp [roRow] at h⟩
    · obtain ⟨cells, i, rfl, _⟩ := at' r x hx
      simp [roRow] at hxr
  refine (hcon _ _ W args' (fun _ hz => hz) (fun r hr _ => by rw [List.getElem?_eq_none_iff, hI2]; simpa using hr) hw hargs hok).mono ?_
  rintro e w' ⟨μ', q1, q2, q3, q4⟩
  cases e with
  | returned v' =>
    have : v' = .bool true := by cases q4; rfl
    subst this
    refine ⟨rfl, ⟨q3.os, q3.tape, q3.output, q3.size, fun k hk => q3.block k hk ?_⟩⟩
    rintro ⟨q, row, o', s, hq, _, hro, _⟩
    obtain ⟨cells, i, rfl, _⟩ := at' q row hq
    simp [roRow] at hro
  | panicked c => exact q4.elim
  | outgrown => exact q4.elim
end
end Go.Sy
namespace Go.Sy
noncomputable section
open Go.Ev Go.RowKit
structure OkB {H : Type} (ok : DataW H → Prop) (Q : Nat → Prop) : Prop where
  zero : Q 0
  str : ∀ b, ok (.lit (.string b)) → Q b.length
  agg : ∀ parts x, ok (.agg parts) → x ∈ parts → ok x
  elem : ∀ el sp x, ok (.slice el sp) → x ∈ el → ok x
  len : ∀ el sp, ok (.slice el sp) → Q el.length
def CellQ (Q : Nat → Prop) (k : Kd) (v : Value) : Prop := CellIs k v ∧ ∀ s, v = .string s → Q s.size
def CellsQ (Q : Nat → Prop) : List Kd → List Value → Prop
  | [], [] => True
  | k :: ks, v :: vs => CellQ Q k v ∧ CellsQ Q ks vs
  | _, _ => False
theorem CellsQ.cells {Q : Nat → Prop} : ∀ {ks : List Kd} {vs : List Value}, CellsQ Q ks vs → Cells ks vs := by
  intro ks
  induction ks with
  | nil => intro vs h; cases vs with | nil => trivial | cons => exact h.elim
  | cons k ks ih => intro vs h; cases vs with | nil => exact h.elim | cons v vs => exact ⟨h.1.1, ih h.2⟩
theorem CellsQ.append {Q : Nat → Prop} : ∀ {ks : List Kd} {vs : List Value} {k2 : List Kd} {v2 : List Value}, CellsQ Q ks vs → CellsQ Q k2 v2 → CellsQ Q (ks ++ k2) (vs ++ v2) := by
  intro ks
  induction ks with
  | nil => intro vs k2 v2 h k; cases vs with | nil => exact k | cons => exact h.elim
  | cons q ks ih => intro vs k2 v2 h k; cases vs with | nil => exact h.elim | cons v vs => exact ⟨h.1, ih h.2 k⟩
section
variable {H : Type} {enc : TypeId × Value → H} {P : Program} {w : World} {base : Nat} {spare : Nat → Bool} {held : Bool} {ok : DataW H → Prop} {Q : Nat → Prop}
theorem fold_q {g : TypeId → Option (List Kd)} {cs : List Value} {n : Nat} (hg : ∀ t ks cs' x, g t = some ks → P.cellsOf t = ks.length → DataW.trod enc P w base spare held n t cs' = some x → ok x.1 → CellsQ Q ks cs') :
    ∀ (l : List Field) (off : Nat) (ks : List Kd), kFold P g l off = some ks → (∀ f ∈ l, ∃ x, DataW.trod enc P w base spare held n f.type ((cs.drop f.offset).take (P.cellsOf f.type)) = some x ∧ ok x.1) → CellsQ Q ks ((cs.drop off).take ks.length) := by
  intro l
  induction l with
  | nil => intro off ks h _; simp [kFold] at h; subst h; simp [CellsQ]
  | cons f r ih =>
    intro off ks h hx
    simp only [kFold] at h
    split at h
    · rename_i k1 hk
      cases hb : (Nat.beq f.offset off && Nat.beq (P.cellsOf f.type) k1.length) with
      | false => rw [hb] at h; simp at h
      | true =>
        rw [hb] at h
        simp only [cond_true] at h
        simp only [Bool.and_eq_true] at hb
        have e1 := Nat.eq_of_beq_eq_true hb.1
        have e2 := Nat.eq_of_beq_eq_true hb.2
        split at h
        · rename_i k2 hr
          simp only [Option.some.injEq] at h
          subst h
          obtain ⟨x, hx1, hx2⟩ := hx f (by simp)
          have c1 := hg _ _ _ _ hk e2 hx1 hx2
          rw [e1, e2] at c1
          have c2 := ih _ _ hr fun f' hf' => hx f' (by simp [hf'])
          rw [List.length_append, List.take_add, List.drop_drop]
          exact c1.append c2
        · simp at h
    · simp at h
theorem flat_q (hB : OkB ok Q) : ∀ (d : Nat) (t : TypeId) (ks : List Kd) (cs : List Value) (fuel : Nat) (x : DataW H × List MemPlace), kT P d t = some ks → P.cellsOf t = ks.length → DataW.trod enc P w base spare held fuel t cs = some x → ok x.1 → CellsQ Q ks cs := by
  intro d
  induction d with
  | zero => intro t ks cs fuel x h; simp [kT] at h
  | succ d ih =>
    intro t ks cs fuel x h hc hx hok
    simp only [kT] at h
    split at h
    · rename_i ht
      simp at h; subst h
      obtain ⟨b, rfl, _⟩ := DataW.trod_bool ht hx
      exact ⟨⟨trivial, fun s h => by simp at h⟩, trivial⟩
    · rename_i k ht
      simp at h; subst h
      obtain ⟨n, rfl, _, hw⟩ := DataW.trod_int ht hx
      exact ⟨⟨⟨rfl, hw⟩, fun s h => by simp at h⟩, trivial⟩
    · rename_i k ht
      simp at h; subst h
      cases fuel with
      | zero => simp [DataW.trod] at hx
      | succ n =>
        unfold DataW.trod at hx
        rw [ht] at hx
        split at hx <;> simp_all [CellsQ, CellQ, CellIs]
    · rename_i ht
      simp at h; subst h
      obtain ⟨s, rfl, hx1, hs⟩ := DataW.trod_string ht hx
      refine ⟨⟨hs, fun s' h => ?_⟩, trivial⟩
      simp only [Value.string.injEq] at h
      subst h
      rw [hx1] at hok
      have := hB.str _ hok
      rwa [Array.length_toList] at this
    · rename_i fs ht
      obtain ⟨xs, n, rfl, hxx, hl, hxl, hf⟩ := DataW.trod_struct ht hx
      have hok' : ∀ y ∈ xs, ok y.1 := fun y hy => by
        rw [hxx] at hok
        exact hB.agg _ _ hok (List.mem_map.2 ⟨y, hy, rfl⟩)
      have := fold_q (cs := cs) (n := n) (ok := ok) (Q := Q) (fun t ks cs' x h1 h2 h3 h4 => ih t ks cs' n x h1 h2 h3 h4) _ _ _ h (fun f hf' => by
        obtain ⟨i, hi⟩ := List.getElem?_of_mem hf'
        have hi' : i < xs.length := by rw [hxl]; simpa using (List.getElem?_eq_some_iff.1 hi).1
        exact ⟨xs[i], by rw [hf i f (by simpa using hi)]; exact List.getElem?_eq_getElem hi', hok' _ (List.getElem_mem hi')⟩)
      rw [List.drop_zero, List.take_of_length_le (by omega)] at this
      exact this
    · simp at h
end
def ElemsQ (Q : Nat → Prop) (ks : List Kd) (n : Nat) (cells : List Value) : Prop := ∃ L : List (List Value), L.length = n ∧ cells = L.flatten ∧ ∀ c ∈ L, CellsQ Q ks c
theorem ElemsQ.elems {Q : Nat → Prop} {ks : List Kd} {n : Nat} {cells : List Value} (h : ElemsQ Q ks n cells) : Elems ks n cells := by
  obtain ⟨L, h1, h2, h3⟩ := h
  exact ⟨L, h1, h2, fun c hc => (h3 c hc).cells⟩
theorem ElemsQ.data {Q : Nat → Prop} {α : Type} {ks : List Kd} {n : Nat} {cells : List Value} (h : ElemsQ Q ks n cells) (en : α → List Value) (R : α → Prop) (hq : ∀ c, CellsQ Q ks c → ∃ a, c = en a ∧ R a) :
    ∃ l : List α, l.length = n ∧ cells = l.flatMap en ∧ ∀ a ∈ l, R a := by
  obtain ⟨L, rfl, rfl, hc⟩ := h
  induction L with
  | nil => exact ⟨[], rfl, rfl, fun a ha => by simp at ha⟩
  | cons c L ih =>
    obtain ⟨l, h1, h2, h3⟩ := ih (fun x hx => hc x (by simp [hx]))
    obtain ⟨a, ha, hqa⟩ := hq c (hc c (by simp))
    refine ⟨a :: l, by simp [h1], by rw [List.flatten_cons, List.flatMap_cons, h2, ha], fun b hb => ?_⟩
    rcases List.mem_cons.1 hb with rfl | hb
    · exact hqa
    · exact h3 b hb
def SliceQ (W : World) (Q : Nat → Prop) (ks : List Kd) (v : Value) : Prop :=
  ∃ (n : Nat) (cells : List Value) (i : Nat × Nat × Nat), LawRow W cells i ∧ ElemsQ Q ks n cells ∧ n ≤ maxLen ∧ Q n ∧ ∀ (μ : Mu) (q : Nat), μ q = some i → VR μ (.slice (some ⟨q, 0, none⟩) n ks.length) v
section
variable {H : Type} {enc : TypeId × Value → H} {P : Program} {ok : DataW H → Prop} {Q : Nat → Prop}
theorem slice_q (hB : OkB ok Q) {W : World} {t e : TypeId} {ks : List Kd} {r : Reach} {b0 d0 fuel : Nat} {v : Value} {x : DataW H × List MemPlace}
    (ht : P.underlying t = some (.slice e)) (hk : kT P d0 e = some ks) (hc : P.cellsOf e = ks.length) (hpos : 0 < ks.length) (hval : Cell.okWide P W r b0 t v) (hf : DataW.trod enc P W 0 (fun _ => true) true fuel t [v] = some x) (hok : ok x.1) :
    SliceQ W Q ks v := by
  have hsl : v = .slice none 0 0 ∨ ∃ a len cap, v = .slice (some a) len cap ∧ W.has P r b0 a e cap ∧ len ≤ cap := by
    unfold Cell.okWide at hval
    rw [ht] at hval
    simp only at hval
    unfold Cell.ok at hval
    rw [ht] at hval
    cases v <;> try exact hval.elim
    rename_i a len cap
    cases a with
    | none =>
      cases len <;> cases cap <;> first | exact .inl rfl | exact hval.elim
    | some a => exact .inr ⟨a, len, cap, rfl, hval.2.2, hval.1⟩
  rcases hsl with h0 | ⟨a, len, cap, rfl, hhas, hlc⟩
  · subst h0
    exact ⟨0, [], (0, 0, 0), ⟨fun v hv => by simp at hv, .inl rfl⟩, ⟨[], rfl, rfl, fun c hc => by simp at hc⟩, Nat.zero_le _, hB.zero, fun μ q _ => .slice0 _ _ _ none⟩
  rcases DataW.trod_slice ht hf with ⟨h1, _⟩ | ⟨a', len', cap', elems, rest, n, _, h1, hx, _, _, hm, hlen, hel, hsp, _⟩
  · simp at h1
  simp at h1
  obtain ⟨rfl, rfl, rfl⟩ := h1
  obtain ⟨hrl, hre⟩ := hsp rfl
  obtain ⟨_, hspot, row, cells, hshape, _⟩ := hhas
  obtain ⟨blk, off, spot⟩ := a
  simp only at hspot
  subst hspot
  obtain ⟨c, el, fr, hblk⟩ : ∃ c el fr, W.heap[blk]? = some (.cells c el fr) := by
    unfold World.shape? at hshape
    split at hshape
    · rename_i c el fr hh; exact ⟨c, el, fr, hh⟩
    · simp at hshape
  have hokE : ∀ y ∈ elems, ok y.1 := fun y hy => by
    rw [hx] at hok
    exact hB.elem _ _ _ hok (List.mem_map.2 ⟨y, hy, rfl⟩)
  have hQ : Q len := by
    rw [hx] at hok
    have := hB.len _ _ hok
    rwa [List.length_map, hlen] at this
  have each : ∀ i, i < cap → off + i * ks.length + ks.length ≤ c.size := by
    intro i hi
    have hb : ∃ y, (W.cells? 0 ((⟨blk, off, none⟩ : Addr).add (i * P.cellsOf e)) (P.cellsOf e)).bind (DataW.trod enc P W 0 (fun _ => true) true n e) = some y := by
      by_cases hi2 : i < len
      · exact ⟨_, by rw [hel i hi2]; exact List.getElem?_eq_getElem (by omega)⟩
      · have := hre (i - len) (by omega)
        rw [show len + (i - len) = i by omega] at this
        exact ⟨_, by rw [this]; exact List.getElem?_eq_getElem (by omega)⟩
    obtain ⟨y, hy⟩ := hb
    rw [Option.bind_eq_some_iff] at hy
    obtain ⟨cs', hcs, hy⟩ := hy
    rw [hc, add_none] at hcs
    exact (cells_at hblk hcs hpos).1
  have each2 : ∀ i, i < len → CellsQ Q ks ((c.toList.drop (off + i * ks.length)).take ks.length) := by
    intro i hi
    have hy := hel i hi
    rw [List.getElem?_eq_getElem (show i < elems.length by omega)] at hy
    rw [Option.bind_eq_some_iff] at hy
    obtain ⟨cs', hcs, hy⟩ := hy
    rw [hc, add_none] at hcs
    obtain ⟨_, k2⟩ := cells_at hblk hcs hpos
    rw [← k2]
    exact flat_q hB d0 e ks cs' n _ hk hc hy (hokE _ (List.getElem_mem _))
  have hlt : cap = 0 ∨ off + cap * ks.length ≤ c.size := by
    rcases Nat.eq_zero_or_pos cap with h | h
    · exact .inl h
    · right
      have := each (cap - 1) (by omega)
      have e1 : (cap - 1) * ks.length + ks.length = cap * ks.length := by rw [← Nat.succ_mul]; congr 1; omega
      omega
  have hL : ElemsQ Q ks len ((c.toList.drop off).take (len * ks.length)) := by
    refine ⟨(List.range len).map fun i => (c.toList.drop (off + i * ks.length)).take ks.length, by simp, ?_, fun x hx => ?_⟩
    · exact chunks _ _ _ _
    · obtain ⟨i, hi, rfl⟩ := List.mem_map.1 hx
      exact each2 i (by have := List.mem_range.1 hi; omega)
  have hcl := hL.elems.len
  refine ⟨len, _, (blk, if cap = 0 then 0 else off, c.size), ⟨hL.elems.plain, ?_⟩, hL, by omega, hQ, fun μ q hq => ?_⟩
  · by_cases hz : cap = 0
    · left; exact List.eq_nil_of_length_eq_zero (by rw [hcl]; have : len = 0 := by omega
                                                    rw [this]; simp)
    · right
      refine ⟨c, el, fr, hblk, rfl, ?_, ?_⟩
      · simp only [if_neg hz]
        rw [hcl]
        have : len * ks.length ≤ cap * ks.length := Nat.mul_le_mul hlc (Nat.le_refl _)
        rcases hlt with h | h <;> omega
      · simp only [if_neg hz]; rw [hcl]
  · by_cases hz : cap = 0
    · have e2 : len = 0 := by omega
      rw [hz, e2]; exact .slice0 _ _ _ _
    · rw [if_neg hz] at hq
      have := VR.slice (μ := μ) q 0 len ks.length blk off c.size cap hq hlc (by rcases hlt with h | h <;> omega)
      simpa using this
theorem slice_arg (hB : OkB ok Q) {W : World} {t e : TypeId} {ks : List Kd} {r : Reach} {b0 d0 : Nat} {v : Value} {d : DataW H} {p : List MemPlace}
    (ht : P.underlying t = some (.slice e)) (hk : kT P d0 e = some ks) (hc : P.cellsOf e = ks.length) (hpos : 0 < ks.length) (hval : Value.okWide P W r b0 t v) (hd : DataW.Trod enc P W 0 (fun _ => true) true t v d p) (hok : ok d) : SliceQ W Q ks v := by
  unfold Value.okWide at hval
  rw [ht] at hval
  simp only at hval
  obtain ⟨fuel, hf⟩ := hd
  have hv : v.cells.toList = [v] := by
    have h2 := hval
    unfold Cell.okWide at h2
    rw [ht] at h2
    simp only at h2
    unfold Cell.ok at h2
    rw [ht] at h2
    cases v <;> first | rfl | exact h2.elim
  rw [hv] at hf
  exact slice_q hB ht hk hc hpos hval hf hok
inductive K2 where
  | p (k : Kd)
  | sl (u el : TypeId) (ks : List Kd)
def T2 (enc : TypeId × Value → H) (P : Program) (W : World) (ok : DataW H → Prop) (Q : Nat → Prop) : List K2 → List Value → Prop
  | [], [] => True
  | .p k :: ks, v :: vs => CellQ Q k v ∧ T2 enc P W ok Q ks vs
  | .sl u el kk :: ks, v :: vs => (P.underlying u = some (.slice el) ∧ P.cellsOf el = kk.length ∧ 0 < kk.length ∧ (∃ d0, kT P d0 el = some kk) ∧ ∃ fuel x, DataW.trod enc P W 0 (fun _ => true) true fuel u [v] = some x ∧ ok x.1) ∧ T2 enc P W ok Q ks vs
  | _, _ => False
theorem T2.append {W : World} : ∀ {ks : List K2} {vs : List Value} {k2 : List K2} {v2 : List Value}, T2 enc P W ok Q ks vs → T2 enc P W ok Q k2 v2 → T2 enc P W ok Q (ks ++ k2) (vs ++ v2) := by
  intro ks
  induction ks with
  | nil => intro vs k2 v2 h k; cases vs with | nil => exact k | cons => exact h.elim
  | cons q ks ih =>
    intro vs k2 v2 h k
    cases vs with
    | nil => cases q <;> exact h.elim
    | cons v vs => cases q <;> exact ⟨h.1, ih h.2 k⟩
end
end
end Go.Sy
namespace Go.Sy
noncomputable section
open Go.Ev Go.RowKit
def ConM (P : Program) (f : FuncId) (args : List Value) (rows : List Row) (v : Value) (n' : Nat) (rl : List (Nat × Row)) : Prop :=
  ∀ (B : Base) (μ : Mu) (w : World) (args' : Array Value), (∀ z, ¬ B.hole z) → OnlyG rows.length μ → WR B μ (mkR (nums 0 rows)).find rows.length w → VRs μ args args'.toList → okFn P f = true →
    Calls P f args' w fun e w' => ∃ μ', Le μ μ' ∧ WR B μ' (mkR rl).find n' w' ∧ Keep μ (mkR (nums 0 rows)).find w μ' (mkR rl).find w' ∧ EnR μ' (endV v) e
def mEnd (ρ : Ass) (v : Value) (e : Ev.End) (k : Ass → Prop) : Prop :=
  match v with
  | .tuple ⟨[.nilFunc, .bool c, x, .int .i64 t, .int .i64 a, .int .i64 b]⟩ =>
    (match e with
    | .ret v1 => c = true ∧ mV 12 ρ x v1 k
    | .pan [{ v := .iface t1 (.agg ⟨[.int .i64 a1, .int .i64 b1]⟩), recovered := false, goexit := false }] => c = false ∧ (t.toNat = t1 ∧ a = a1 ∧ b = b1) ∧ k ρ
    | _ => False)
  | .tuple ⟨[.nilFunc, .bool c, x, .int .i64 t, .int .i64 a, .int .i64 b, .bool d, .int .i64 t2, .string s, .int .i64 n]⟩ =>
    (match e with
    | .ret v1 => c = true ∧ mV 12 ρ x v1 k
    | .pan [{ v := .iface t1 (.agg ⟨[.int .i64 a1, .int .i64 b1]⟩), recovered := false, goexit := false }] => c = false ∧ d = false ∧ (t.toNat = t1 ∧ a = a1 ∧ b = b1) ∧ k ρ
    | .pan ({ v := .iface t1 (.string s1), recovered := false, goexit := false } :: older) => c = false ∧ d = true ∧ (t2.toNat = t1 ∧ s = s1 ∧ older = reps t2.toNat s n.toNat) ∧ k ρ
    | _ => False)
  | v => (match e with | .ret v1 => mV 12 ρ v v1 k | _ => False)
def retIsM (n0 : Nat) (v : Value) (n' : Nat) (rl : List (Nat × Row)) (r : Ev.End × Hp) : Prop :=
  match r with
  | (e1, h1) => need (Nat.ble n0 n' && Nat.ble n' 1000000 && okSt.go2 n' rl) (mEnd (idAss n0) v e1 fun ρ => mRows h1.rows ρ rl fun ρ => need (ρ.below n' && apartIn ρ rl) True)
theorem mEnd_sound {ρ : Ass} {v : Value} {x : Ev.End} {k : Ass → Prop} (hi : ρ.Inj) (h : mEnd ρ v x k) : ∃ ρ', ρ.Ext ρ' ∧ ρ'.Inj ∧ k ρ' ∧ ∀ ρ2, ρ'.Ext ρ2 → ∀ (μ' μ2 : Mu), (∀ r' r d, RA ρ2 r' r d → ∀ b o s, μ' r = some (b, o, s) → μ2 r' = some (b, o + d, s)) → GLe μ' μ2 → ∀ e, EnR μ' x e → EnR μ2 (endV v) e := by
  unfold mEnd at h
  split at h
  · rename_i c x0 t a b
    split at h
    · rename_i v1
      obtain ⟨rfl, h⟩ := h
      obtain ⟨ρ1, e1, i1, r1, hk⟩ := mV_sound _ _ _ _ _ hi h
      refine ⟨ρ1, e1, i1, hk, fun ρ2 e2 μ' μ2 hR hG e he => ?_⟩
      cases e with
      | returned v' => exact (r1.mono (RA.ext e2)).here hR hG _ he
      | panicked c => exact he.elim
      | outgrown => exact he.elim
    · rename_i t1 a1 b1
      obtain ⟨rfl, ⟨rfl, rfl, rfl⟩, hk⟩ := h
      refine ⟨ρ, fun _ _ hh => hh, hi, hk, fun ρ2 e2 μ' μ2 hR hG e he => ?_⟩
      cases e with
      | returned v' => exact he.elim
      | panicked c => exact pan_flat _ _ _ _ _ _ he
      | outgrown => exact he.elim
    · exact h.elim
  · rename_i c x0 t a b d t2 s n
    split at h
    · rename_i v1
      obtain ⟨rfl, h⟩ := h
      obtain ⟨ρ1, e1, i1, r1, hk⟩ := mV_sound _ _ _ _ _ hi h
      refine ⟨ρ1, e1, i1, hk, fun ρ2 e2 μ' μ2 hR hG e he => ?_⟩
      cases e with
      | returned v' => exact (r1.mono (RA.ext e2)).here hR hG _ he
      | panicked c => exact he.elim
      | outgrown => exact he.elim
    · rename_i t1 a1 b1
      obtain ⟨rfl, rfl, ⟨rfl, rfl, rfl⟩, hk⟩ := h
      refine ⟨ρ, fun _ _ hh => hh, hi, hk, fun ρ2 e2 μ' μ2 hR hG e he => ?_⟩
      cases e with
      | returned v' => exact he.elim
      | panicked c => exact pan_flat _ _ _ _ _ _ he
      | outgrown => exact he.elim
    · rename_i t1 s1 older
      obtain ⟨rfl, rfl, ⟨rfl, rfl, rfl⟩, hk⟩ := h
      refine ⟨ρ, fun _ _ hh => hh, hi, hk, fun ρ2 e2 μ' μ2 hR hG e he => ?_⟩
      cases e with
      | returned v' => exact he.elim
      | panicked c => exact pan_str _ _ _ _ _ _ he
      | outgrown => exact he.elim
    · exact h.elim
  · rename_i hne hne2
    split at h
    · rename_i v1
      obtain ⟨ρ1, e1, i1, r1, hk⟩ := mV_sound _ _ _ _ _ hi h
      refine ⟨ρ1, e1, i1, hk, fun ρ2 e2 μ' μ2 hR hG e he => ?_⟩
      have hv : endV v = .ret v := by
        unfold endV
        split
        · rename_i c x t a b; exact absurd rfl (hne c x t a b)
        · rename_i c x t a b d t2 s n; exact absurd rfl (hne2 c x t a b d t2 s n)
        · rfl
      rw [hv]
      cases e with
      | returned v' => exact (r1.mono (RA.ext e2)).here hR hG _ he
      | panicked c => exact he.elim
      | outgrown => exact he.elim
    · exact h.elim
theorem conM_of {E : Env} (hm : E.P.follows .mixedOrders = true) (ho : CallsOk E.P (oOf E)) (hL : LOk E) {M : FuncId → List Nat → Option Spec} {f : FuncId} {args : List Value} {rows : List Row} {n' : Nat} {rl : List (Nat × Row)} {v : Value} (hM : LMOk E rows.length M) {n : Nat}
    (hc : mcall E M n f args ⟨mkR (nums 0 rows), rows.length⟩ (retIsM rows.length v n' rl)) : ConM E.P f args rows v n' rl := by
  intro B μ w args' h1 h2 hw hargs hok
  refine (mcall_sound hm ho hL hM hc h1 h2 hw hargs).mono ?_
  rintro e w' ⟨x1, h', μ', hk, g1, g2, g3, g4⟩
  simp only [retIsM] at hk
  obtain ⟨k1, hk⟩ := need_spec hk
  simp only [Bool.and_eq_true] at k1
  have k3 := Nat.le_of_ble_eq_true k1.1.2
  have k4 := go2_spec _ _ k1.2
  obtain ⟨ρ1, e1, i1, hk, r1⟩ := mEnd_sound (idAss_inj _) hk
  obtain ⟨ρ2, e2, i2, r2, hk⟩ := mRows_sound _ _ _ i1 hk
  obtain ⟨hb, _⟩ := need_spec hk
  rw [Bool.and_eq_true] at hb
  have hn9 : n' ≤ Tr.top := by unfold Tr.top; omega
  obtain ⟨q1, q2⟩ := WR.under (n' := n') g2 h1 hb.2 hb.1 hn9 (rl := rl) (fun p hp => ⟨by have := k4 p hp; unfold Tr.top; omega, r2 p hp⟩)
  exact ⟨_, muOf_le _ h2 (e1.trans e2) hb.1 hn9 g1, q1, ⟨g3.os, g3.tape, g3.output, g3.size, g3.block, fun b hb => g3.owns b (q2 b hb), fun z i b o s hm => g3.gnew z i b o s ((muOf_g _ hb.1 hn9 z i).symm.trans hm)⟩, r1 ρ2 e2 _ _ (muOf_here _) (muOf_gle _ hb.1 hn9) e g4⟩
theorem conM_vc {E : Env} (hm : E.P.follows .mixedOrders = true) (ho : CallsOk E.P (oOf E)) (hL : LOk E) {M : FuncId → List Nat → Option Spec} {f : FuncId} {args : List Value} {rows : List Row} {n' : Nat} {rl : List (Nat × Row)} {v : Value} (hM : LMOk E rows.length M) {n : Nat} {vc : Prop}
    (hvc : mcall E M n f args ⟨mkR (nums 0 rows), rows.length⟩ (retIsM rows.length v n' rl) = vc) (h : vc) : ConM E.P f args rows v n' rl := conM_of hm ho hL hM (hvc.mpr h)
inductive Bk where
  | ro (r o n : Nat)
  | own (r : Nat) (ts : List TypeId)
  | gh (q z o n : Nat)
def Bk.at : Bk → Nat × Nat
  | .ro r o _ => (r, o)
  | .gh q _ _ _ => (q, 0)
  | .own r _ => (r, 0)
def bkFind (r : Nat) : List Bk → Nat → Option Nat
  | [], _ => none
  | .own q _ :: l, i => bif Nat.beq q r then some i else bkFind r l (i + 1)
  | .ro _ _ _ :: l, i | .gh _ _ _ _ :: l, i => bkFind r l (i + 1)
def bkOwn (bk : List Bk) (r : Nat) (ts : List TypeId) : Nat × List Bk :=
  match bkFind r bk 0 with
  | some i => (i, bk)
  | none => (bk.length, bk ++ [.own r ts])
def elT (P : Program) (t : TypeId) : List TypeId := match P.underlying t with | some (.slice el) => (match cT P 8 el with | some ts => ts | none => []) | _ => []
def tile (ts : List TypeId) (n : Nat) : List TypeId := bif Nat.beq ts.length n then ts else (List.replicate (n / ts.length) ts).flatten
structure Cst where
  v : Value
  h : Hp
  bk : List Bk
  p : Prop
def elOf (P : Program) (t : TypeId) : Option TypeId :=
  match P.underlying t with
  | some (.pointer el) => some el
  | _ => bif Nat.ble 1000000 t then some (t - 1000000) else none
def mOne (P : Program) (h : Hp) (bk : List Bk) (inn wn : Bool) (t : TypeId) (v : Value) : Option Cst :=
  match v with
  | .slice none 0 0 =>
    match inn && !wn with
    | true => some ⟨.slice none 0 0, h, bk, True⟩
    | false =>
      match P.underlying t with
      | some (.slice el) =>
        (match szOf P el with
        | some m => bif Nat.blt h.next 1000000 then
            some ⟨.slice (some ⟨bk.length, 0, none⟩) 0 m, ⟨h.rows.put h.next (some ⟨[], false, .cells true⟩), h.next + 1⟩, bk ++ [bif inn then .own h.next [] else .ro h.next 0 0], True⟩ else none
        | none => none)
      | _ => none
  | .slice (some ⟨r, o, none⟩) n e =>
    match h.rows.find r with
    | some ⟨cells, true, .cells _⟩ => some ⟨.slice (some ⟨bk.length, 0, none⟩) n e, h, bk ++ [.ro r o (n * e)], o + n * e ≤ cells.length ∧ Plain ((cells.drop o).take (n * e))⟩
    | some ⟨cells, false, .cells _⟩ =>
      (match inn with
      | true => some ⟨.slice (some ⟨(bkOwn bk r (elT P t)).1, o, none⟩) n e, h, (bkOwn bk r (elT P t)).2, True⟩
      | false => some ⟨.slice (some ⟨bk.length, 0, none⟩) n e, h, bk ++ [.ro r o (n * e)], o + n * e ≤ cells.length ∧ Plain ((cells.drop o).take (n * e))⟩)
    | _ => none
  | .pointer (some ⟨r, o, none⟩) =>
    match h.rows.find r, elOf P t with
    | some ⟨_, false, .cells _⟩, some el =>
      (match cT P 8 el with
      | some ts => some ⟨.pointer (some ⟨(bkOwn bk r ts).1, o, none⟩), h, (bkOwn bk r ts).2, True⟩
      | none => none)
    | _, _ => none
  | .slice (some ⟨z, o, some 0⟩) n e =>
    match inn with
    | true => some ⟨.slice (some ⟨z, o, some 0⟩) n e, h, bk, True⟩
    | false => bif Nat.blt h.next 1000000 then
        some ⟨.slice (some ⟨bk.length, 0, none⟩) n e, ⟨h.rows, h.next + 1⟩, bk ++ [.gh h.next z o (n * e)], o + n * e ≤ (gCells z).length⟩ else none
  | .pointer (some ⟨z, o, some 0⟩) => some ⟨.pointer (some ⟨z, o, some 0⟩), h, bk, True⟩
  | .int k n => some ⟨.int k n, h, bk, True⟩
  | .bool b => some ⟨.bool b, h, bk, True⟩
  | .string s => some ⟨.string s, h, bk, True⟩
  | .float k b => some ⟨.float k b, h, bk, True⟩
  | .pointer none => some ⟨.pointer none, h, bk, True⟩
  | .nilFunc => some ⟨.nilFunc, h, bk, True⟩
  | .nilIface => some ⟨.nilIface, h, bk, True⟩
  | .map (some r) =>
    match h.rows.find r with
    | some ⟨_, false, .map true⟩ => some ⟨.map (some (bkOwn bk r []).1), h, (bkOwn bk r []).2, True⟩
    | _ => none
  | _ => none
structure Csts where
  vs : List Value
  h : Hp
  bk : List Bk
  p : Prop
def mMany (P : Program) (inn wn : Bool) : List TypeId → List Value → Hp → List Bk → Option Csts
  | [], [], h, bk => some ⟨[], h, bk, True⟩
  | t :: ts, v :: vs, h, bk =>
    match mOne P h bk inn wn t v with
    | some c => (match mMany P inn wn ts vs c.h c.bk with | some d => some ⟨c.v :: d.vs, d.h, d.bk, c.p ∧ d.p⟩ | none => none)
    | none => none
  | _, _, _, _ => none
def mArg (P : Program) (h : Hp) (bk : List Bk) (t : TypeId) (v : Value) : Option Cst :=
  match v with
  | .agg ⟨vs⟩ =>
    match cT P 8 t with
    | some ts => (match mMany P false false ts vs h bk with | some d => some ⟨.agg ⟨d.vs⟩, d.h, d.bk, d.p⟩ | none => none)
    | none => none
  | v => mOne P h bk false false t v
def mArgs (P : Program) : List TypeId → List Value → Hp → List Bk → Option Csts
  | [], [], h, bk => some ⟨[], h, bk, True⟩
  | t :: ts, v :: vs, h, bk =>
    match mArg P h bk t v with
    | some c => (match mArgs P ts vs c.h c.bk with | some d => some ⟨c.v :: d.vs, d.h, d.bk, c.p ∧ d.p⟩ | none => none)
    | none => none
  | _, _, _, _ => none
def mOneK (P : Program) (h : Hp) (bk : List Bk) (t : TypeId) (v : Value) : Option Cst :=
  match v with
  | .slice none 0 0 => mOne P h bk true false t (.slice none 0 0)
  | v => mOne P h bk false false t v
def mManyK (P : Program) : List TypeId → List Value → Hp → List Bk → Option Csts
  | [], [], h, bk => some ⟨[], h, bk, True⟩
  | t :: ts, v :: vs, h, bk =>
    match mOneK P h bk t v with
    | some c => (match mManyK P ts vs c.h c.bk with | some d => some ⟨c.v :: d.vs, d.h, d.bk, c.p ∧ d.p⟩ | none => none)
    | none => none
  | _, _, _, _ => none
def mArgK (P : Program) (h : Hp) (bk : List Bk) (t : TypeId) (v : Value) : Option Cst :=
  match v with
  | .agg ⟨vs⟩ =>
    match cT P 8 t with
    | some ts => (match mManyK P ts vs h bk with | some d => some ⟨.agg ⟨d.vs⟩, d.h, d.bk, d.p⟩ | none => none)
    | none => none
  | v => mOneK P h bk t v
def mArgsK (P : Program) : List TypeId → List Value → Hp → List Bk → Option Csts
  | [], [], h, bk => some ⟨[], h, bk, True⟩
  | t :: ts, v :: vs, h, bk =>
    match mArgK P h bk t v with
    | some c => (match mArgsK P ts vs c.h c.bk with | some d => some ⟨c.v :: d.vs, d.h, d.bk, c.p ∧ d.p⟩ | none => none)
    | none => none
  | _, _, _, _ => none
def mArgW (P : Program) (h : Hp) (bk : List Bk) (t : TypeId) (v : Value) : Option Cst :=
  match v with
  | .agg ⟨vs⟩ =>
    match cT P 8 t with
    | some ts => (match mMany P false false ts vs h bk with | some d => some ⟨.agg ⟨d.vs⟩, d.h, d.bk, d.p⟩ | none => none)
    | none => none
  | .slice (some ⟨z, o, some 0⟩) n e => mOne P h bk false false t (.slice (some ⟨z, o, some 0⟩) n e)
  | v => mOne P h bk true true t v
def mArgsW (P : Program) : List TypeId → List Value → Hp → List Bk → Option Csts
  | [], [], h, bk => some ⟨[], h, bk, True⟩
  | t :: ts, v :: vs, h, bk =>
    match mArgW P h bk t v with
    | some c => (match mArgsW P ts vs c.h c.bk with | some d => some ⟨c.v :: d.vs, d.h, d.bk, c.p ∧ d.p⟩ | none => none)
    | none => none
  | _, _, _, _ => none
def mArgF (P : Program) (cap : FuncId → List TypeId) (h : Hp) (bk : List Bk) (t : TypeId) (v : Value) : Option Cst :=
  match v with
  | .func (.func g) ⟨[]⟩ ⟨y⟩ => (match mMany P true true (cap g) y h bk with | some d => some ⟨.func (.func g) ⟨[]⟩ ⟨d.vs⟩, d.h, d.bk, d.p⟩ | none => none)
  | .agg ⟨vs⟩ =>
    match cT P 8 t with
    | some ts => (match mMany P true true ts vs h bk with | some d => some ⟨.agg ⟨d.vs⟩, d.h, d.bk, d.p⟩ | none => none)
    | none => none
  | v => mArgW P h bk t v
def mArgsF (P : Program) (cap : FuncId → List TypeId) : List TypeId → List Value → Hp → List Bk → Option Csts
  | [], [], h, bk => some ⟨[], h, bk, True⟩
  | t :: ts, v :: vs, h, bk =>
    match mArgF P cap h bk t v with
    | some c => (match mArgsF P cap ts vs c.h c.bk with | some d => some ⟨c.v :: d.vs, d.h, d.bk, c.p ∧ d.p⟩ | none => none)
    | none => none
  | _, _, _, _ => none
structure Crow where
  row : Row
  h : Hp
  bk : List Bk
  p : Prop
def mRowIn (P : Program) (wn : Bool) (h : Hp) (bk : List Bk) : Bk → Option Crow
  | .ro r o n => (match h.rows.find r with | some ⟨cells, _, .cells _⟩ => some ⟨⟨(cells.drop o).take n, true, .cells true⟩, h, bk, True⟩ | _ => none)
  | .gh _ z o n => some ⟨⟨((gCells z).drop o).take n, true, .cells true⟩, h, bk, True⟩
  | .own r ts =>
    match h.rows.find r with
    | some ⟨cells, false, .cells true⟩ => some ⟨⟨cells, false, .cells true⟩, h, bk, Plain cells⟩
    | some ⟨cells, false, .cells false⟩ => (match mMany P true wn (tile ts cells.length) cells h bk with | some d => some ⟨⟨d.vs, false, .cells false⟩, d.h, d.bk, d.p⟩ | none => bif wn && cells.all (noAddr 12) then some ⟨⟨cells, false, .cells false⟩, h, bk, True⟩ else none)
    | some ⟨cells, false, .map true⟩ => some ⟨⟨cells, false, .map true⟩, h, bk, Plain cells⟩
    | _ => none
structure Crows where
  rows : List Row
  h : Hp
  bk : List Bk
  p : Prop
def mRowsIn (P : Program) (wn : Bool) : Nat → Nat → Hp → List Bk → Option Crows
  | 0, _, _, _ => none
  | f + 1, j, h, bk =>
    match bk[j]? with
    | none => some ⟨[], h, bk, True⟩
    | some b =>
      match mRowIn P wn h bk b with
      | some c => (match mRowsIn P wn f (j + 1) c.h c.bk with | some d => some ⟨c.row :: d.rows, d.h, d.bk, c.p ∧ d.p⟩ | none => none)
      | none => none
def bkOk (bk : List Bk) : Bool := bk.all fun b => match b with
  | .ro r _ _ => (match bkFind r bk 0 with | some _ => false | none => true)
  | .gh _ _ _ _ => true
  | .own r _ => Nat.blt r 1000000
def bkOk.go : List Bk → Bool
  | [] => true
  | .own r _ :: l => Nat.blt r 1000000 && bkOk.go l
  | .ro _ _ _ :: l | .gh _ _ _ _ :: l => true && bkOk.go l
def eRow (bk : List Bk) (next n' : Nat) (i : Nat) : Option (Nat × Nat) :=
  match bk[i]? with
  | some (.gh _ _ _ _) => none
  | some b => some b.at
  | none => bif Nat.blt i n' then some (next + (i - bk.length), 0) else none
def eV (bk : List Bk) (next n' : Nat) : Nat → Value → Option Value
  | 0, _ => none
  | d + 1, v =>
    match v with
    | .int k n => some (.int k n)
    | .bool b => some (.bool b)
    | .string s => some (.string s)
    | .float k b => some (.float k b)
    | .pointer none => some (.pointer none)
    | .slice none 0 0 => some (.slice none 0 0)
    | .nilFunc => some .nilFunc
    | .nilIface => some .nilIface
    | .slice (some ⟨i, k, none⟩) n e => (match eRow bk next n' i with | some (r, o) => some (.slice (some ⟨r, o + k, none⟩) n e) | none => none)
    | .pointer (some ⟨i, k, none⟩) => (match eRow bk next n' i with | some (r, o) => some (.pointer (some ⟨r, o + k, none⟩)) | none => none)
    | .slice (some ⟨z, k, some 0⟩) n e => some (.slice (some ⟨z, k, some 0⟩) n e)
    | .pointer (some ⟨z, k, some 0⟩) => some (.pointer (some ⟨z, k, some 0⟩))
    | .map (some i) => (match eRow bk next n' i with | some (r, 0) => some (.map (some r)) | _ => none)
    | .agg ⟨x⟩ => (match bMany (eV bk next n' d) x with | some l => some (.agg ⟨l⟩) | none => none)
    | .tuple ⟨x⟩ => (match bMany (eV bk next n' d) x with | some l => some (.tuple ⟨l⟩) | none => none)
    | _ => none
def eDrop : List Bk → Tr Row → Tr Row
  | [], t => t
  | .own r _ :: l, t => (eDrop l t).put r none
  | .ro _ _ _ :: l, t | .gh _ _ _ _ :: l, t => eDrop l t
def eDest (bk : List Bk) (next n' : Nat) (i : Nat) : Option Nat :=
  match bk[i]? with
  | some (.own r _) => some r
  | some (.ro _ _ _) | some (.gh _ _ _ _) => none
  | none => bif Nat.blt i n' then some (next + (i - bk.length)) else none
def eRows (bk : List Bk) (next n' : Nat) : List (Nat × Row) → Tr Row → Option (Prop × Tr Row)
  | [], t => some (True, t)
  | (i, row) :: l, t =>
    match eDest bk next n' i with
    | none => eRows bk next n' l t
    | some r =>
      match row with
      | ⟨cells, false, .cells true⟩ => (match eRows bk next n' l t with | some (p, t') => some (Plain cells ∧ p, t'.put r (some ⟨cells, false, .cells true⟩)) | none => none)
      | ⟨cells, false, .cells false⟩ =>
        (match bMany (eV bk next n' 12) cells, eRows bk next n' l t with
        | some cells', some (p, t') => some (p, t'.put r (some ⟨cells', false, .cells false⟩))
        | _, _ => none)
      | ⟨cells, false, .map true⟩ => (match eRows bk next n' l t with | some (p, t') => some (Plain cells ∧ p, t'.put r (some ⟨cells, false, .map true⟩)) | none => none)
      | _ => none
def once : List (Nat × Row) → Bool
  | [] => true
  | p :: l => l.all (fun q => !Nat.beq q.1 p.1) && once l
abbrev TabM := FuncId → List Value → List Row → Option (Prop × Value × Nat × List (Nat × Row))
def isMk : Value → Bool
  | .tuple ⟨[.nilFunc, .bool _, _, .int .i64 _, .int .i64 _, .int .i64 _]⟩ => true
  | .tuple ⟨[.nilFunc, .bool _, _, .int .i64 _, .int .i64 _, .int .i64 _, .bool _, .int .i64 _, .string _, .int .i64 _]⟩ => true
  | _ => false
def mkOk (v v' : Value) : Bool := (noMark v && noMark v') || isMk v
def tOfMc (P : Program) (C : TabM) (wn : Bool) (f : FuncId) (c : Csts) : Option (Prop × Value × Hp) :=
  match mRowsIn P wn 80 0 c.h c.bk with
  | some d =>
    match C f c.vs d.rows with
    | some (p, v, n', rl) =>
      bif Nat.ble (d.h.next + n') 1000000 && Nat.ble d.bk.length n' && bkOk d.bk && okSt.go2 n' rl && once rl && Nat.ble n' 1000000 then
        match eV d.bk d.h.next n' 12 v, eRows d.bk d.h.next n' rl (eDrop d.bk d.h.rows) with
        | some v', some (p', rows') => bif mkOk v v' then some (c.p ∧ d.p ∧ p' ∧ p, v', ⟨rows', d.h.next + (n' - d.bk.length)⟩) else none
        | _, _ => none
      else none
    | none => none
  | none => none
def tOfM (P : Program) (C : TabM) (known : FuncId → Bool) (cap : FuncId → List TypeId := fun _ => []) : FuncId → List Value → Hp → Option (Prop × Value × Hp) := fun f args h =>
  match known f with
  | false => none
  | true =>
    match P.funcs[f]? with
    | some fn =>
      match (match mArgs P (fn.params.toList ++ cap f) args h [] with | some c => tOfMc P C false f c | none => none) with
      | some r => some r
      | none =>
        match (match mArgsK P (fn.params.toList ++ cap f) args h [] with | some c => tOfMc P C false f c | none => none) with
        | some r => some r
        | none =>
          match (match mArgsW P (fn.params.toList ++ cap f) args h [] with | some c => tOfMc P C true f c | none => none) with
          | some r => some r
          | none => (match mArgsF P cap (fn.params.toList ++ cap f) args h [] with | some c => tOfMc P C true f c | none => none)
    | none => none
def bkMu (μ : Mu) (b : Bk) : Option (Nat × Nat × Nat) := match μ b.at.1 with | some (x, o, s) => some (x, o + b.at.2, s) | none => none
def BkIn (h : Hp) : Bk → Prop
  | .ro r o n => ∃ cells ro sy, h.rows.find r = some ⟨cells, ro, .cells sy⟩ ∧ o + n ≤ cells.length ∧ Plain ((cells.drop o).take n)
  | .own r _ => ∃ cells ob, h.rows.find r = some ⟨cells, false, ob⟩
  | .gh _ z o n => o + n ≤ (gCells z).length
def GhAt (μ : Mu) (q z o n : Nat) : Prop := ∃ b ob s, μ q = some (b, ob, s) ∧ (n = 0 ∨ ∃ j ob', μ (gAt z j) = some (b, ob', s) ∧ ob = ob' + o)
theorem GhAt.le {μ μ' : Mu} (hl : Le μ μ') {q z o n : Nat} (h : GhAt μ q z o n) : GhAt μ' q z o n := by
  obtain ⟨b, ob, s, h1, h2⟩ := h
  refine ⟨b, ob, s, hl _ _ h1, ?_⟩
  rcases h2 with h2 | ⟨j, ob', h2, h3⟩
  · exact .inl h2
  · exact .inr ⟨j, ob', hl _ _ h2, h3⟩
structure MI (B : Base) (μ : Mu) (h : Hp) (bk : List Bk) (w : World) : Prop where
  wr : WR B μ h.rows.find h.next w
  ent : ∀ (i : Nat) b, bk[i]? = some b → BkIn h b
  inj : ∀ (i j r : Nat) ts ts', bk[i]? = some (.own r ts) → bk[j]? = some (.own r ts') → i = j
  gh : ∀ (i q z o n : Nat), bk[i]? = some (.gh q z o n) → GhAt μ q z o n
structure MS (μ : Mu) (h : Hp) (bk : List Bk) (w : World) (μ' : Mu) (h' : Hp) (bk' : List Bk) : Prop where
  le : Le μ μ'
  kp : Keep μ h.rows.find w μ' h'.rows.find w
  find : ∀ r row, h.rows.find r = some row → h'.rows.find r = some row
  pre : ∀ (i : Nat) b, bk[i]? = some b → bk'[i]? = some b
  nx : h.next ≤ h'.next
theorem MS.refl (μ : Mu) (h : Hp) (bk : List Bk) (w : World) : MS μ h bk w μ h bk := ⟨.refl _, .refl _ _ _, fun _ _ h => h, fun _ _ h => h, Nat.le_refl _⟩
theorem MS.trans {μ μ1 μ2 : Mu} {h h1 h2 : Hp} {bk bk1 bk2 : List Bk} {w : World} (a : MS μ h bk w μ1 h1 bk1) (b : MS μ1 h1 bk1 w μ2 h2 bk2) : MS μ h bk w μ2 h2 bk2 :=
  ⟨a.le.trans b.le, a.kp.trans b.kp, fun r row h => b.find r row (a.find r row h), fun i x h => b.pre i x (a.pre i x h), Nat.le_trans a.nx b.nx⟩
theorem BkIn.mono {h h' : Hp} (hf : ∀ r row, h.rows.find r = some row → h'.rows.find r = some row) {b : Bk} (hb : BkIn h b) : BkIn h' b := by
  cases b with
  | ro r o n => obtain ⟨c, ro, sy, h1, h2⟩ := hb; exact ⟨c, ro, sy, hf _ _ h1, h2⟩
  | own r ts => obtain ⟨c, sy, h1⟩ := hb; exact ⟨c, sy, hf _ _ h1⟩
  | gh => exact hb
theorem bkFind_spec : ∀ (bk : List Bk) (r i : Nat), (∀ j, bkFind r bk i = some j → ∃ k ts, j = i + k ∧ bk[k]? = some (.own r ts)) ∧ (bkFind r bk i = none → ∀ (k : Nat) ts, bk[k]? ≠ some (.own r ts)) := by
  intro bk r
  induction bk with
  | nil => intro i; exact ⟨fun j h => by simp [bkFind] at h, fun _ k ts h => by simp at h⟩
  | cons b l ih =>
    intro i
    obtain ⟨i1, i2⟩ := ih (i + 1)
    cases b with
    | ro q o n =>
      refine ⟨fun j h => ?_, fun h k ts hk => ?_⟩
      · obtain ⟨k, ts, h1, h2⟩ := i1 j h; exact ⟨k + 1, ts, by omega, by simpa using h2⟩
      · cases k with
        | zero => simp at hk
        | succ k => exact i2 h k ts (by simpa using hk)
    | gh q z o n =>
      refine ⟨fun j h => ?_, fun h k ts hk => ?_⟩
      · obtain ⟨k, ts, h1, h2⟩ := i1 j h; exact ⟨k + 1, ts, by omega, by simpa using h2⟩
      · cases k with
        | zero => simp at hk
        | succ k => exact i2 h k ts (by simpa using hk)
    | own q tq =>
      simp only [bkFind]
      cases hq : Nat.beq q r with
      | true =>
        have := Nat.eq_of_beq_eq_true hq
        subst this
        exact ⟨fun j h => by simp at h; exact ⟨0, tq, by omega, rfl⟩, fun h => by simp at h⟩
      | false =>
        refine ⟨fun j h => ?_, fun h k ts hk => ?_⟩
        · obtain ⟨k, ts, h1, h2⟩ := i1 j h; exact ⟨k + 1, ts, by omega, by simpa using h2⟩
        · cases k with
          | zero => simp at hk; obtain ⟨rfl, _⟩ := hk; simp at hq
          | succ k => exact i2 h k ts (by simpa using hk)
theorem pre_app (bk : List Bk) (b : Bk) : ∀ (i : Nat) x, bk[i]? = some x → (bk ++ [b])[i]? = some x := fun i x h => by
  rw [List.getElem?_append_left (List.getElem?_eq_some_iff.1 h).1]; exact h
theorem app_last (bk : List Bk) (b : Bk) : (bk ++ [b])[bk.length]? = some b := by simp
theorem app_cases {bk : List Bk} {b : Bk} {i : Nat} {x : Bk} (h : (bk ++ [b])[i]? = some x) : bk[i]? = some x ∨ (i = bk.length ∧ x = b) := by
  rcases Nat.lt_or_ge i bk.length with h1 | h1
  · rw [List.getElem?_append_left h1] at h; exact .inl h
  · rw [List.getElem?_append_right h1] at h
    cases hi : i - bk.length with
    | zero => rw [hi] at h; simp at h; exact .inr ⟨by omega, h.symm⟩
    | succ k => rw [hi] at h; simp at h
section
variable {B : Base} {μ : Mu} {w : World} {P : Program}
theorem MI.ro {h : Hp} {bk : List Bk} (hi : MI B μ h bk w) {r o n : Nat} (hb : BkIn h (.ro r o n)) : MI B μ h (bk ++ [.ro r o n]) w ∧ MS μ h bk w μ h (bk ++ [.ro r o n]) := by
  refine ⟨⟨hi.wr, fun i b h1 => ?_, fun i j q ts ts' h1 h2 => ?_, fun i q z o n h1 => ?_⟩, ⟨.refl _, .refl _ _ _, fun _ _ h => h, pre_app _ _, Nat.le_refl _⟩⟩
  · rcases app_cases h1 with h1 | ⟨_, rfl⟩
    · exact hi.ent i b h1
    · exact hb
  · rcases app_cases h1 with h1 | ⟨_, h1⟩
    · rcases app_cases h2 with h2 | ⟨_, h2⟩
      · exact hi.inj _ _ _ _ _ h1 h2
      · simp at h2
    · simp at h1
  · rcases app_cases h1 with h1 | ⟨_, h1⟩
    · exact hi.gh _ _ _ _ _ h1
    · simp at h1
theorem MI.own {h : Hp} {bk : List Bk} (hi : MI B μ h bk w) {r : Nat} {ts : List TypeId} (hb : BkIn h (.own r ts)) :
    MI B μ h (bkOwn bk r ts).2 w ∧ MS μ h bk w μ h (bkOwn bk r ts).2 ∧ ∃ ts', (bkOwn bk r ts).2[(bkOwn bk r ts).1]? = some (.own r ts') := by
  unfold bkOwn
  cases hf : bkFind r bk 0 with
  | some i =>
    obtain ⟨k, ts', h1, h2⟩ := (bkFind_spec bk r 0).1 i hf
    have : i = k := by omega
    subst this
    exact ⟨hi, .refl _ _ _ _, ts', h2⟩
  | none =>
    have hno := (bkFind_spec bk r 0).2 hf
    refine ⟨⟨hi.wr, fun i b h1 => ?_, fun i j q ts1 ts2 h1 h2 => ?_, fun i q z o n h1 => ?_⟩, ⟨.refl _, .refl _ _ _, fun _ _ h => h, pre_app _ _, Nat.le_refl _⟩, ts, app_last _ _⟩
    · rcases app_cases h1 with h1 | ⟨_, rfl⟩
      · exact hi.ent i b h1
      · exact hb
    · rcases app_cases h1 with k1 | ⟨e1, k1⟩ <;> rcases app_cases h2 with k2 | ⟨e2, k2⟩
      · exact hi.inj _ _ _ _ _ k1 k2
      · simp at k2; obtain ⟨rfl, _⟩ := k2; exact (hno _ _ k1).elim
      · simp at k1; obtain ⟨rfl, _⟩ := k1; exact (hno _ _ k2).elim
      · omega
    · rcases app_cases h1 with h1 | ⟨_, h1⟩
      · exact hi.gh _ _ _ _ _ h1
      · simp at h1
theorem noRow {n : Nat} {F : Nat → Option Row} (hw : WR B μ F n w) {r : Nat} (h : μ r = none) : F r = none := by
  cases hf : F r with
  | none => rfl
  | some row =>
    cases hv : row.void with
    | true => obtain ⟨b, o, s, h1, _⟩ := hw.vrow r row hf hv; rw [h] at h1; simp at h1
    | false => obtain ⟨b, o, s, x, h1, _⟩ := (hw.rows r row hf hv).mu; rw [h] at h1; simp at h1
theorem MI.nil {h : Hp} {bk : List Bk} (hi : MI B μ h bk w) (hn : h.next < 1000000) (inn : Bool) :
    ∃ μ', MI B μ' ⟨h.rows.put h.next (some ⟨[], false, .cells true⟩), h.next + 1⟩ (bk ++ [bif inn then .own h.next [] else .ro h.next 0 0]) w ∧
      MS μ h bk w μ' ⟨h.rows.put h.next (some ⟨[], false, .cells true⟩), h.next + 1⟩ (bk ++ [bif inn then .own h.next [] else .ro h.next 0 0]) := by
  have ht : h.next < Tr.top := by unfold Tr.top; omega
  have hq : μ h.next = none := hi.wr.fresh _ (Nat.le_refl _) ht
  obtain ⟨k1, k2⟩ := hi.wr.nothing (n' := h.next + 1) ht hq (fun hz => by have := (hi.wr.hole _ hz).2; omega) (by omega) (by omega) true
  have ef : (h.rows.put h.next (some ⟨[], false, .cells true⟩)).find = setF h.rows.find h.next (some ⟨[], false, .cells true⟩) := by
    funext r; rw [Tr.find_put _ _ _ _ ht]; rfl
  have hf : ∀ r row, h.rows.find r = some row → (h.rows.put h.next (some ⟨[], false, .cells true⟩)).find r = some row := by
    intro r row hr
    rw [Tr.find_put _ _ _ _ ht]
    by_cases e : r = h.next
    · subst e; rw [noRow hi.wr hq] at hr; simp at hr
    · rw [if_neg e]; exact hr
  have hnew : (h.rows.put h.next (some ⟨[], false, .cells true⟩)).find h.next = some ⟨[], false, .cells true⟩ := by rw [Tr.find_put _ _ _ _ ht, if_pos rfl]
  refine ⟨_, ⟨by simp only; rw [ef]; exact k1, fun i b h1 => ?_, fun i j q ts ts' h1 h2 => ?_, fun i q z o n h1 => ?_⟩, ⟨le_setM hq _, by simp only; rw [ef]; exact k2, hf, pre_app _ _, by simp⟩⟩
  · rcases app_cases h1 with h1 | ⟨_, rfl⟩
    · exact (hi.ent i b h1).mono hf
    · cases inn with
      | true => exact ⟨_, _, hnew⟩
      | false => exact ⟨_, _, _, hnew, by simp, by intro v hv; simp at hv⟩
  · have hno : ∀ (k : Nat) ts, bk[k]? ≠ some (.own h.next ts) := by
      intro k ts hk
      obtain ⟨c, sy, h3⟩ := hi.ent k _ hk
      rw [noRow hi.wr hq] at h3; simp at h3
    rcases app_cases h1 with k1 | ⟨e1, k1⟩ <;> rcases app_cases h2 with k2 | ⟨e2, k2⟩
    · exact hi.inj _ _ _ _ _ k1 k2
    · cases inn <;> simp at k2; obtain ⟨rfl, _⟩ := k2; exact (hno _ _ k1).elim
    · cases inn <;> simp at k1; obtain ⟨rfl, _⟩ := k1; exact (hno _ _ k2).elim
    · omega
  · rcases app_cases h1 with h1 | ⟨_, h1⟩
    · exact (hi.gh _ _ _ _ _ h1).le (le_setM hq _)
    · cases inn <;> simp at h1
theorem MI.part {h : Hp} {bk : List Bk} (hi : MI B μ h bk w) (hn : h.next < 1000000) {z o n e : Nat} (hlen : o + n * e ≤ (gCells z).length) {w' : Value} (hv : VR μ (.slice (some ⟨z, o, some 0⟩) n e) w') :
    ∃ μ', MI B μ' ⟨h.rows, h.next + 1⟩ (bk ++ [.gh h.next z o (n * e)]) w ∧ MS μ h bk w μ' ⟨h.rows, h.next + 1⟩ (bk ++ [.gh h.next z o (n * e)]) ∧
      ∀ (μc : Mu) (i : Nat), μc i = μ' h.next → VR μc (.slice (some ⟨i, 0, none⟩) n e) w' := by
  have ht : h.next < Tr.top := by unfold Tr.top; omega
  have hq : μ h.next = none := hi.wr.fresh _ (Nat.le_refl _) ht
  have main : ∀ p : Nat × Nat × Nat, (n * e = 0 ∨ ∃ j ob', μ (gAt z j) = some (p.1, ob', p.2.2) ∧ p.2.1 = ob' + o) →
      MI B (setM μ h.next p) ⟨h.rows, h.next + 1⟩ (bk ++ [.gh h.next z o (n * e)]) w ∧ MS μ h bk w (setM μ h.next p) ⟨h.rows, h.next + 1⟩ (bk ++ [.gh h.next z o (n * e)]) := by
    intro p hp
    have hle := le_setM hq p
    have hrow : ∀ r row, h.rows.find r = some row → setM μ h.next p r = μ r := fun r row hr => by
      obtain ⟨q, hq2⟩ := wr_mu hi.wr hr
      rw [hq2]; exact hle _ _ hq2
    have hown : ∀ b, Owns (setM μ h.next p) h.rows.find b → Owns μ h.rows.find b := fun b ⟨r, row, o', s', k1, k2, k3, k4⟩ => ⟨r, row, o', s', k1, k2, k3, by rw [hrow r row k1] at k4; exact k4⟩
    have hg : ∀ y i, setM μ h.next p (gAt y i) = μ (gAt y i) := setM_g ht p
    refine ⟨⟨⟨hi.wr.base, fun y hy => ?_, fun r h1 h2 => ?_, fun r row hr hv => ?_, fun r row hr hv => ?_, fun r q x y b o s o' s' hx hy hxv hyv hxr hyr h1 h2 => ?_, fun y i b o s hm => ?_, ?_, hi.wr.tab⟩, fun i b h1 => ?_, fun i j q ts ts' h1 h2 => ?_, fun i q z' o' n' h1 => ?_⟩, ⟨hle, ⟨rfl, rfl, rfl, Nat.le_refl _, fun _ _ _ => rfl, fun b hb => .inl (hown b hb), fun y i b o s hm => .inl ((hg y i).symm.trans hm)⟩, fun _ _ h => h, pre_app _ _, by simp⟩⟩
    · obtain ⟨k1, k2⟩ := hi.wr.hole y hy
      refine ⟨?_, by simp only; omega⟩
      unfold setM; rw [if_neg (by omega)]; exact k1
    · simp only at h1
      unfold setM; rw [if_neg (by omega)]; exact hi.wr.fresh r (by omega) h2
    · exact (hi.wr.rows r row hr hv).kept hle fun _ _ _ _ => rfl
    · obtain ⟨b1, o1, s1, k1, k2⟩ := hi.wr.vrow r row hr hv; exact ⟨b1, o1, s1, hle _ _ k1, k2⟩
    · rw [hrow r x hx] at h1; rw [hrow q y hy] at h2
      exact hi.wr.apart r q x y b o s o' s' hx hy hxv hyv hxr hyr h1 h2
    · rw [hg] at hm
      exact ⟨(hi.wr.gho y i b o s hm).1.kept hle rfl, fun h => (hi.wr.gho y i b o s hm).2 (hown _ h)⟩
    · obtain ⟨K, hK⟩ := hi.wr.gfr; exact ⟨K, fun y i hi2 => (hg y i).trans (hK y i hi2)⟩
    · rcases app_cases h1 with h1 | ⟨_, rfl⟩
      · exact (hi.ent i b h1).mono fun _ _ h => h
      · exact hlen
    · rcases app_cases h1 with h1 | ⟨_, h1⟩
      · rcases app_cases h2 with h2 | ⟨_, h2⟩
        · exact hi.inj _ _ _ _ _ h1 h2
        · simp at h2
      · simp at h1
    · rcases app_cases h1 with h1 | ⟨_, h1⟩
      · exact (hi.gh _ _ _ _ _ h1).le hle
      · simp only [Bk.gh.injEq] at h1
        obtain ⟨rfl, rfl, rfl, rfl⟩ := h1
        refine ⟨p.1, p.2.1, p.2.2, by simp [setM], ?_⟩
        rcases hp with h0 | ⟨j, ob', h2, h3⟩
        · exact .inl h0
        · exact .inr ⟨j, ob', by rw [hg]; exact h2, h3⟩
  cases hv with
  | gsl _ _ _ _ j b ob s c hm hn2 hc =>
    obtain ⟨m1, m2⟩ := main (b, ob + o, s) (.inr ⟨j, ob, hm, rfl⟩)
    refine ⟨_, m1, m2, fun μc i hi2 => ?_⟩
    have := VR.slice (μ := μc) i 0 n e b (ob + o) s c (by rw [hi2]; simp [setM]) hn2 (by omega)
    simpa using this
  | gsl0 _ _ _ a =>
    obtain ⟨m1, m2⟩ := main (w.heap.size, 0, 0) (.inl (by simp))
    exact ⟨_, m1, m2, fun μc i _ => .slice0 _ _ _ _⟩
theorem mOne_ok {h : Hp} {bk : List Bk} {inn wn : Bool} {t : TypeId} {v : Value} {c : Cst} (hc : mOne P h bk inn wn t v = some c) (hp : c.p) (hi : MI B μ h bk w) {w0 : Value} (hv0 : inn = false → VR μ v w0) :
    ∃ μ', MI B μ' c.h c.bk w ∧ MS μ h bk w μ' c.h c.bk ∧ (inn = false → ∀ z o n e, v = .slice (some ⟨z, o, some 0⟩) n e → ∀ (μf : Mu) (bkf : List Bk) (μc : Mu), Le μ' μf → (∀ (i : Nat) b, c.bk[i]? = some b → bkf[i]? = some b) → (∀ (i : Nat) b, bkf[i]? = some b → μc i = bkMu μf b) → VR μc c.v w0) := by
  unfold mOne at hc
  split at hc
  · split at hc
    · simp only [Option.some.injEq] at hc; subst hc; exact ⟨μ, hi, .refl _ _ _ _, fun _ z o n e hz => by simp at hz⟩
    · split at hc
      · split at hc
        · cases hn : Nat.blt h.next 1000000 with
          | false => rw [hn] at hc; simp at hc
          | true =>
            rw [hn] at hc
            simp only [cond_true, Option.some.injEq] at hc; subst hc
            obtain ⟨μ', k1, k2⟩ := hi.nil (Nat.le_of_ble_eq_true hn) inn
            exact ⟨μ', k1, k2, fun _ z o n e hz => by simp at hz⟩
        · simp at hc
      · simp at hc
  · split at hc
    · rename_i hr
      simp only [Option.some.injEq] at hc; subst hc
      exact ⟨μ, (hi.ro ⟨_, _, _, hr, hp⟩).1, (hi.ro ⟨_, _, _, hr, hp⟩).2, fun _ z o n e hz => by simp at hz⟩
    · rename_i hr
      split at hc
      · simp only [Option.some.injEq] at hc; subst hc
        obtain ⟨h1, h2, _⟩ := hi.own (ts := elT P t) ⟨_, _, hr⟩
        exact ⟨μ, h1, h2, fun _ z o n e hz => by simp at hz⟩
      · simp only [Option.some.injEq] at hc; subst hc
        exact ⟨μ, (hi.ro ⟨_, _, _, hr, hp⟩).1, (hi.ro ⟨_, _, _, hr, hp⟩).2, fun _ z o n e hz => by simp at hz⟩
    · simp at hc
  · split at hc
    · rename_i hr hu
      split at hc
      · rename_i ts _
        simp only [Option.some.injEq] at hc; subst hc
        obtain ⟨h1, h2, _⟩ := hi.own (ts := ts) ⟨_, _, hr⟩
        exact ⟨μ, h1, h2, fun _ z o n e hz => by simp at hz⟩
      · simp at hc
    · simp at hc
  · rename_i z o n e
    split at hc
    · simp only [Option.some.injEq] at hc; subst hc; exact ⟨μ, hi, .refl _ _ _ _, fun hf => by simp at hf⟩
    · cases hn : Nat.blt h.next 1000000 with
      | false => rw [hn] at hc; simp at hc
      | true =>
        rw [hn] at hc
        simp only [cond_true, Option.some.injEq] at hc; subst hc
        obtain ⟨μ', k1, k2, k3⟩ := hi.part (Nat.le_of_ble_eq_true hn) hp (hv0 rfl)
        refine ⟨μ', k1, k2, fun _ _ _ _ _ _ μf bkf μc hle hpre hrel => ?_⟩
        obtain ⟨b, ob, s, g1, _⟩ := k1.gh _ _ _ _ _ (app_last bk _)
        refine k3 μc _ ?_
        rw [hrel _ _ (hpre _ _ (app_last bk _)), g1]
        unfold bkMu
        simp only [Bk.at, hle _ _ g1, Nat.add_zero]
  all_goals first
    | (split at hc
       · rename_i hr
         simp only [Option.some.injEq] at hc; subst hc
         obtain ⟨h1, h2, _⟩ := hi.own (ts := []) ⟨_, _, hr⟩
         exact ⟨μ, h1, h2, fun _ z o n e hz => by simp at hz⟩
       · simp at hc)
    | (simp only [Option.some.injEq] at hc; subst hc; exact ⟨μ, hi, .refl _ _ _ _, fun _ z o n e hz => by first | (simp at hz; done) | (rename_i h9; exact absurd hz (h9 _ _ _ _))⟩)
    | simp at hc
def Rel (μf : Mu) (bkf : List Bk) (μc : Mu) : Prop := (∀ (i : Nat) b, bkf[i]? = some b → μc i = bkMu μf b) ∧ GLe μf μc
theorem mOne_vr {h : Hp} {bk : List Bk} {inn wn : Bool} {t : TypeId} {v w' : Value} {c : Cst} (hc : mOne P h bk inn wn t v = some c) (hi : MI B μ h bk w) {μf : Mu} {bkf : List Bk} {μc : Mu} (hpre : ∀ (i : Nat) b, c.bk[i]? = some b → bkf[i]? = some b) (hrel : Rel μf bkf μc) (hv : VR μf v w') (hgh : inn = false → ∀ z o n e, v = .slice (some ⟨z, o, some 0⟩) n e → VR μc c.v w') : VR μc c.v w' := by
  unfold mOne at hc
  split at hc
  · split at hc
    · simp only [Option.some.injEq] at hc; subst hc; cases hv; exact .snil
    · split at hc
      · split at hc
        · cases hn : Nat.blt h.next 1000000 with
          | false => rw [hn] at hc; simp at hc
          | true =>
            rw [hn] at hc
            simp only [cond_true, Option.some.injEq] at hc; subst hc
            cases hv; exact .slice0 _ _ _ none
        · simp at hc
      · simp at hc
  · rename_i r o n e
    have ro : ∀ k : Nat, bkf[bk.length]? = some (.ro r o k) → VR μc (.slice (some ⟨bk.length, 0, none⟩) n e) w' := by
      intro k hk
      have h1 := hrel.1 _ _ hk
      cases hv with
      | slice _ _ _ _ b ob s cc hm hn hcc =>
        unfold bkMu at h1
        simp only [Bk.at, hm] at h1
        exact .slice _ 0 n e b (ob + o) s cc h1 hn (by omega)
      | slice0 => exact .slice0 _ _ _ _
    split at hc
    · simp only [Option.some.injEq] at hc; subst hc
      exact ro _ (hpre _ _ (app_last _ _))
    · rename_i hr
      split at hc
      · simp only [Option.some.injEq] at hc; subst hc
        obtain ⟨_, _, ts', h2⟩ := hi.own (ts := elT P t) ⟨_, _, hr⟩
        have h1 := hrel.1 _ _ (hpre _ _ h2)
        cases hv with
        | slice _ _ _ _ b ob s cc hm hn hcc =>
          unfold bkMu at h1
          simp only [Bk.at, hm, Nat.add_zero] at h1
          exact .slice _ o n e b ob s cc h1 hn (by omega)
        | slice0 => exact .slice0 _ _ _ _
      · simp only [Option.some.injEq] at hc; subst hc
        exact ro _ (hpre _ _ (app_last _ _))
    · simp at hc
  · rename_i r o
    split at hc
    · rename_i hr hu
      split at hc
      · rename_i ts _
        simp only [Option.some.injEq] at hc; subst hc
        obtain ⟨_, _, ts', h2⟩ := hi.own (ts := ts) ⟨_, _, hr⟩
        have h1 := hrel.1 _ _ (hpre _ _ h2)
        cases hv with
        | ptr _ _ b ob s hm =>
          unfold bkMu at h1
          simp only [Bk.at, hm, Nat.add_zero] at h1
          exact .ptr _ o b ob s h1
      · simp at hc
    · simp at hc
  · have g : ∀ z o n e, VR μf (.slice (some ⟨z, o, some 0⟩) n e) w' → VR μc (.slice (some ⟨z, o, some 0⟩) n e) w' := by
      intro z o n e hv
      cases hv with
      | gsl _ _ _ _ i b o s c hb hn hcc => exact .gsl _ _ _ _ i b o s c (hrel.2 _ _ _ hb) hn hcc
      | gsl0 => exact .gsl0 _ _ _ _
    split at hc
    · simp only [Option.some.injEq] at hc; subst hc; exact g _ _ _ _ hv
    · exact hgh rfl _ _ _ _ rfl
  · simp only [Option.some.injEq] at hc; subst hc
    cases hv with
    | gptr _ _ i b o s hb => exact .gptr _ _ i b o s (hrel.2 _ _ _ hb)
  all_goals first
    | (split at hc
       · rename_i hr
         simp only [Option.some.injEq] at hc; subst hc
         obtain ⟨_, _, ts', h2⟩ := hi.own (ts := []) ⟨_, _, hr⟩
         have h1 := hrel.1 _ _ (hpre _ _ h2)
         cases hv with
         | mapp _ b hm =>
           unfold bkMu at h1
           simp only [Bk.at, hm, Nat.add_zero] at h1
           exact .mapp _ b h1
       · simp at hc)
    | (simp only [Option.some.injEq] at hc; subst hc; cases hv <;> first | exact .nan _ _ _ (by assumption) (by assumption) | (constructor; done))
    | simp at hc
theorem mMany_ok {inn wn : Bool} : ∀ (ts : List TypeId) (vs : List Value) (μ : Mu) (h : Hp) (bk : List Bk) (d : Csts), mMany P inn wn ts vs h bk = some d → d.p → MI B μ h bk w → ∀ ws0, (inn = false → VRs μ vs ws0) →
    ∃ μ', MI B μ' d.h d.bk w ∧ MS μ h bk w μ' d.h d.bk ∧
      ∀ (μf : Mu) (bkf : List Bk) (μc : Mu), (inn = false → Le μ' μf) → (∀ (i : Nat) b, d.bk[i]? = some b → bkf[i]? = some b) → Rel μf bkf μc → ∀ ws, (inn = false → ws = ws0) → VRs μf vs ws → VRs μc d.vs ws := by
  intro ts
  induction ts with
  | nil =>
    intro vs μ h bk d hd hp hi ws0 hv0
    cases vs with
    | nil =>
      simp only [mMany, Option.some.injEq] at hd; subst hd
      refine ⟨μ, hi, .refl _ _ _ _, fun μf bkf μc _ _ _ ws _ hv => ?_⟩
      have : ws = [] := List.eq_nil_of_length_eq_zero (by have := hv.1; simpa using this.symm)
      subst this; exact .nil
    | cons => simp [mMany] at hd
  | cons t ts ih =>
    intro vs μ h bk d hd hp hi ws0 hv0
    cases vs with
    | nil => simp [mMany] at hd
    | cons v vs =>
      simp only [mMany] at hd
      split at hd
      · rename_i c hc
        split at hd
        · rename_i d1 hd1
          simp only [Option.some.injEq] at hd; subst hd
          have hw0 : ∃ w0 ws1, inn = false → ws0 = w0 :: ws1 ∧ VR μ v w0 ∧ VRs μ vs ws1 := by
            cases inn with
            | true => exact ⟨v, [], fun h => by simp at h⟩
            | false => obtain ⟨w', ws', e, h1, h2⟩ := VRs.uncons (hv0 rfl); exact ⟨w', ws', fun _ => ⟨e, h1, h2⟩⟩
          obtain ⟨w0, ws1, hw0⟩ := hw0
          obtain ⟨μ1, a1, a2, a3⟩ := mOne_ok hc hp.1 hi (fun h => (hw0 h).2.1)
          obtain ⟨μ2, b1, b2, b3⟩ := ih _ _ _ _ _ hd1 hp.2 a1 ws1 (fun h => (hw0 h).2.2.le a2.le)
          refine ⟨μ2, b1, a2.trans b2, fun μf bkf μc hle hpre hrel ws hws hv => ?_⟩
          obtain ⟨w', ws', rfl, h1, h2⟩ := VRs.uncons hv
          have he : inn = false → w' = w0 ∧ ws' = ws1 := fun h => by have := (hws h).trans (hw0 h).1; simpa using this
          refine .cons (mOne_vr hc hi (fun i b hb => hpre i b (b2.pre i b hb)) hrel h1 fun h z o n e hz => ?_) (b3 μf bkf μc hle hpre hrel ws' (fun h => (he h).2) h2)
          rw [(he h).1]
          exact a3 h z o n e hz μf bkf μc (b2.le.trans (hle h)) (fun i b hb => hpre i b (b2.pre i b hb)) hrel.1
        · simp at hd
      · simp at hd
theorem mArg_ok {h : Hp} {bk : List Bk} {t : TypeId} {v : Value} {c : Cst} (hc : mArg P h bk t v = some c) (hp : c.p) (hi : MI B μ h bk w) {w' : Value} (hv : VR μ v w') :
    ∃ μ', MI B μ' c.h c.bk w ∧ MS μ h bk w μ' c.h c.bk ∧
      ∀ (μf : Mu) (bkf : List Bk) (μc : Mu), Le μ' μf → (∀ (i : Nat) b, c.bk[i]? = some b → bkf[i]? = some b) → Rel μf bkf μc → VR μc c.v w' := by
  unfold mArg at hc
  split at hc
  · rename_i vs
    split at hc
    · rename_i ts hts
      split at hc
      · rename_i d hd
        simp only [Option.some.injEq] at hc; subst hc
        cases hv with
        | agg _ x' hx hh' =>
          obtain ⟨μ1, a1, a2, a3⟩ := mMany_ok (inn := false) _ _ _ _ _ _ hd hp hi _ (fun _ => VRs.of_array hx hh')
          refine ⟨μ1, a1, a2, fun μf bkf μc hle hpre hrel => ?_⟩
          have := (a3 μf bkf μc (fun _ => hle) hpre hrel _ (fun _ => rfl) (VRs.le (VRs.of_array hx hh') (a2.le.trans hle))).agg
          simpa using this
      · simp at hc
    · simp at hc
  · obtain ⟨μ1, a1, a2, a3⟩ := mOne_ok hc hp hi (fun _ => hv)
    exact ⟨μ1, a1, a2, fun μf bkf μc hle hpre hrel => mOne_vr hc hi hpre hrel (hv.le (a2.le.trans hle)) fun h z o n e hz => a3 h z o n e hz μf bkf μc hle hpre hrel.1⟩
theorem mArgs_ok : ∀ (ts : List TypeId) (vs : List Value) (μ : Mu) (h : Hp) (bk : List Bk) (d : Csts), mArgs P ts vs h bk = some d → d.p → MI B μ h bk w → ∀ ws, VRs μ vs ws →
    ∃ μ', MI B μ' d.h d.bk w ∧ MS μ h bk w μ' d.h d.bk ∧
      ∀ (μf : Mu) (bkf : List Bk) (μc : Mu), Le μ' μf → (∀ (i : Nat) b, d.bk[i]? = some b → bkf[i]? = some b) → Rel μf bkf μc → VRs μc d.vs ws := by
  intro ts
  induction ts with
  | nil =>
    intro vs μ h bk d hd hp hi ws hv
    cases vs with
    | nil =>
      simp only [mArgs, Option.some.injEq] at hd; subst hd
      refine ⟨μ, hi, .refl _ _ _ _, fun μf bkf μc _ _ _ => ?_⟩
      have : ws = [] := List.eq_nil_of_length_eq_zero (by have := hv.1; simpa using this.symm)
      subst this; exact .nil
    | cons => simp [mArgs] at hd
  | cons t ts ih =>
    intro vs μ h bk d hd hp hi ws hv
    cases vs with
    | nil => simp [mArgs] at hd
    | cons v vs =>
      simp only [mArgs] at hd
      split at hd
      · rename_i c hc
        split at hd
        · rename_i d1 hd1
          simp only [Option.some.injEq] at hd; subst hd
          obtain ⟨w', ws', rfl, h1, h2⟩ := VRs.uncons hv
          obtain ⟨μ1, a1, a2, a3⟩ := mArg_ok hc hp.1 hi h1
          obtain ⟨μ2, b1, b2, b3⟩ := ih _ _ _ _ _ hd1 hp.2 a1 ws' (h2.le a2.le)
          exact ⟨μ2, b1, a2.trans b2, fun μf bkf μc hle hpre hrel => .cons (a3 μf bkf μc (b2.le.trans hle) (fun i b hb => hpre i b (b2.pre i b hb)) hrel) (b3 μf bkf μc hle hpre hrel)⟩
        · simp at hd
      · simp at hd
theorem mOneK_ok {h : Hp} {bk : List Bk} {t : TypeId} {v : Value} {c : Cst} (hc : mOneK P h bk t v = some c) (hp : c.p) (hi : MI B μ h bk w) {w' : Value} (hv : VR μ v w') :
    ∃ μ', MI B μ' c.h c.bk w ∧ MS μ h bk w μ' c.h c.bk ∧
      ∀ (μf : Mu) (bkf : List Bk) (μc : Mu), Le μ' μf → (∀ (i : Nat) b, c.bk[i]? = some b → bkf[i]? = some b) → Rel μf bkf μc → VR μc c.v w' := by
  unfold mOneK at hc
  split at hc
  · obtain ⟨μ1, a1, a2, _⟩ := mOne_ok hc hp hi (w0 := w') (fun h => by simp at h)
    exact ⟨μ1, a1, a2, fun μf bkf μc hle hpre hrel => mOne_vr hc hi hpre hrel (hv.le (a2.le.trans hle)) fun h => by simp at h⟩
  · obtain ⟨μ1, a1, a2, a3⟩ := mOne_ok hc hp hi (fun _ => hv)
    exact ⟨μ1, a1, a2, fun μf bkf μc hle hpre hrel => mOne_vr hc hi hpre hrel (hv.le (a2.le.trans hle)) fun h z o n e hz => a3 h z o n e hz μf bkf μc hle hpre hrel.1⟩
theorem mManyK_ok : ∀ (ts : List TypeId) (vs : List Value) (μ : Mu) (h : Hp) (bk : List Bk) (d : Csts), mManyK P ts vs h bk = some d → d.p → MI B μ h bk w → ∀ ws, VRs μ vs ws →
    ∃ μ', MI B μ' d.h d.bk w ∧ MS μ h bk w μ' d.h d.bk ∧
      ∀ (μf : Mu) (bkf : List Bk) (μc : Mu), Le μ' μf → (∀ (i : Nat) b, d.bk[i]? = some b → bkf[i]? = some b) → Rel μf bkf μc → VRs μc d.vs ws := by
  intro ts
  induction ts with
  | nil =>
    intro vs μ h bk d hd hp hi ws hv
    cases vs with
    | nil =>
      simp only [mManyK, Option.some.injEq] at hd; subst hd
      refine ⟨μ, hi, .refl _ _ _ _, fun μf bkf μc _ _ _ => ?_⟩
      have : ws = [] := List.eq_nil_of_length_eq_zero (by have := hv.1; simpa using this.symm)
      subst this; exact .nil
    | cons => simp [mManyK] at hd
  | cons t ts ih =>
    intro vs μ h bk d hd hp hi ws hv
    cases vs with
    | nil => simp [mManyK] at hd
    | cons v vs =>
      simp only [mManyK] at hd
      split at hd
      · rename_i c hc
        split at hd
        · rename_i d1 hd1
          simp only [Option.some.injEq] at hd; subst hd
          obtain ⟨w', ws', rfl, h1, h2⟩ := VRs.uncons hv
          obtain ⟨μ1, a1, a2, a3⟩ := mOneK_ok hc hp.1 hi h1
          obtain ⟨μ2, b1, b2, b3⟩ := ih _ _ _ _ _ hd1 hp.2 a1 ws' (h2.le a2.le)
          exact ⟨μ2, b1, a2.trans b2, fun μf bkf μc hle hpre hrel => .cons (a3 μf bkf μc (b2.le.trans hle) (fun i b hb => hpre i b (b2.pre i b hb)) hrel) (b3 μf bkf μc hle hpre hrel)⟩
        · simp at hd
      · simp at hd
theorem mArgK_ok {h : Hp} {bk : List Bk} {t : TypeId} {v : Value} {c : Cst} (hc : mArgK P h bk t v = some c) (hp : c.p) (hi : MI B μ h bk w) {w' : Value} (hv : VR μ v w') :
    ∃ μ', MI B μ' c.h c.bk w ∧ MS μ h bk w μ' c.h c.bk ∧
      ∀ (μf : Mu) (bkf : List Bk) (μc : Mu), Le μ' μf → (∀ (i : Nat) b, c.bk[i]? = some b → bkf[i]? = some b) → Rel μf bkf μc → VR μc c.v w' := by
  unfold mArgK at hc
  split at hc
  · rename_i vs
    split at hc
    · rename_i ts hts
      split at hc
      · rename_i d hd
        simp only [Option.some.injEq] at hc; subst hc
        cases hv with
        | agg _ x' hx hh' =>
          obtain ⟨μ1, a1, a2, a3⟩ := mManyK_ok _ _ _ _ _ _ hd hp hi _ (VRs.of_array hx hh')
          refine ⟨μ1, a1, a2, fun μf bkf μc hle hpre hrel => ?_⟩
          have := (a3 μf bkf μc hle hpre hrel).agg
          simpa using this
      · simp at hc
    · simp at hc
  · exact mOneK_ok hc hp hi hv
theorem mArgsK_ok : ∀ (ts : List TypeId) (vs : List Value) (μ : Mu) (h : Hp) (bk : List Bk) (d : Csts), mArgsK P ts vs h bk = some d → d.p → MI B μ h bk w → ∀ ws, VRs μ vs ws →
    ∃ μ', MI B μ' d.h d.bk w ∧ MS μ h bk w μ' d.h d.bk ∧
      ∀ (μf : Mu) (bkf : List Bk) (μc : Mu), Le μ' μf → (∀ (i : Nat) b, d.bk[i]? = some b → bkf[i]? = some b) → Rel μf bkf μc → VRs μc d.vs ws := by
  intro ts
  induction ts with
  | nil =>
    intro vs μ h bk d hd hp hi ws hv
    cases vs with
    | nil =>
      simp only [mArgsK, Option.some.injEq] at hd; subst hd
      refine ⟨μ, hi, .refl _ _ _ _, fun μf bkf μc _ _ _ => ?_⟩
      have : ws = [] := List.eq_nil_of_length_eq_zero (by have := hv.1; simpa using this.symm)
      subst this; exact .nil
    | cons => simp [mArgsK] at hd
  | cons t ts ih =>
    intro vs μ h bk d hd hp hi ws hv
    cases vs with
    | nil => simp [mArgsK] at hd
    | cons v vs =>
      simp only [mArgsK] at hd
      split at hd
      · rename_i c hc
        split at hd
        · rename_i d1 hd1
          simp only [Option.some.injEq] at hd; subst hd
          obtain ⟨w', ws', rfl, h1, h2⟩ := VRs.uncons hv
          obtain ⟨μ1, a1, a2, a3⟩ := mArgK_ok hc hp.1 hi h1
          obtain ⟨μ2, b1, b2, b3⟩ := ih _ _ _ _ _ hd1 hp.2 a1 ws' (h2.le a2.le)
          exact ⟨μ2, b1, a2.trans b2, fun μf bkf μc hle hpre hrel => .cons (a3 μf bkf μc (b2.le.trans hle) (fun i b hb => hpre i b (b2.pre i b hb)) hrel) (b3 μf bkf μc hle hpre hrel)⟩
        · simp at hd
      · simp at hd
theorem mArgW_ok {h : Hp} {bk : List Bk} {t : TypeId} {v : Value} {c : Cst} (hc : mArgW P h bk t v = some c) (hp : c.p) (hi : MI B μ h bk w) {w' : Value} (hv : VR μ v w') :
    ∃ μ', MI B μ' c.h c.bk w ∧ MS μ h bk w μ' c.h c.bk ∧
      ∀ (μf : Mu) (bkf : List Bk) (μc : Mu), Le μ' μf → (∀ (i : Nat) b, c.bk[i]? = some b → bkf[i]? = some b) → Rel μf bkf μc → VR μc c.v w' := by
  unfold mArgW at hc
  split at hc
  · rename_i vs
    split at hc
    · rename_i ts hts
      split at hc
      · rename_i d hd
        simp only [Option.some.injEq] at hc; subst hc
        cases hv with
        | agg _ x' hx hh' =>
          obtain ⟨μ1, a1, a2, a3⟩ := mMany_ok (inn := false) _ _ _ _ _ _ hd hp hi _ (fun _ => VRs.of_array hx hh')
          refine ⟨μ1, a1, a2, fun μf bkf μc hle hpre hrel => ?_⟩
          have := (a3 μf bkf μc (fun _ => hle) hpre hrel _ (fun _ => rfl) (VRs.le (VRs.of_array hx hh') (a2.le.trans hle))).agg
          simpa using this
      · simp at hc
    · simp at hc
  · obtain ⟨μ1, a1, a2, a3⟩ := mOne_ok hc hp hi (fun _ => hv)
    exact ⟨μ1, a1, a2, fun μf bkf μc hle hpre hrel => mOne_vr hc hi hpre hrel (hv.le (a2.le.trans hle)) fun h z o n e hz => a3 h z o n e hz μf bkf μc hle hpre hrel.1⟩
  · obtain ⟨μ1, a1, a2, _⟩ := mOne_ok hc hp hi (w0 := w') (fun h => by simp at h)
    exact ⟨μ1, a1, a2, fun μf bkf μc hle hpre hrel => mOne_vr hc hi hpre hrel (hv.le (a2.le.trans hle)) fun h => by simp at h⟩
theorem mArgsW_ok : ∀ (ts : List TypeId) (vs : List Value) (μ : Mu) (h : Hp) (bk : List Bk) (d : Csts), mArgsW P ts vs h bk = some d → d.p → MI B μ h bk w → ∀ ws, VRs μ vs ws →
    ∃ μ', MI B μ' d.h d.bk w ∧ MS μ h bk w μ' d.h d.bk ∧
      ∀ (μf : Mu) (bkf : List Bk) (μc : Mu), Le μ' μf → (∀ (i : Nat) b, d.bk[i]? = some b → bkf[i]? = some b) → Rel μf bkf μc → VRs μc d.vs ws := by
  intro ts
  induction ts with
  | nil =>
    intro vs μ h bk d hd hp hi ws hv
    cases vs with
    | nil =>
      simp only [mArgsW, Option.some.injEq] at hd; subst hd
      refine ⟨μ, hi, .refl _ _ _ _, fun μf bkf μc _ _ _ => ?_⟩
      have : ws = [] := List.eq_nil_of_length_eq_zero (by have := hv.1; simpa using this.symm)
      subst this; exact .nil
    | cons => simp [mArgsW] at hd
  | cons t ts ih =>
    intro vs μ h bk d hd hp hi ws hv
    cases vs with
    | nil => simp [mArgsW] at hd
    | cons v vs =>
      simp only [mArgsW] at hd
      split at hd
      · rename_i c hc
        split at hd
        · rename_i d1 hd1
          simp only [Option.some.injEq] at hd; subst hd
          obtain ⟨w', ws', rfl, h1, h2⟩ := VRs.uncons hv
          obtain ⟨μ1, a1, a2, a3⟩ := mArgW_ok hc hp.1 hi h1
          obtain ⟨μ2, b1, b2, b3⟩ := ih _ _ _ _ _ hd1 hp.2 a1 ws' (h2.le a2.le)
          exact ⟨μ2, b1, a2.trans b2, fun μf bkf μc hle hpre hrel => .cons (a3 μf bkf μc (b2.le.trans hle) (fun i b hb => hpre i b (b2.pre i b hb)) hrel) (b3 μf bkf μc hle hpre hrel)⟩
        · simp at hd
      · simp at hd
def isCm : Ob → Bool
  | .iter => false
  | _ => true
theorem void_len {c c' : List Value} {r r' : Bool} {ob : Ob} (h : c'.length = c.length) : (⟨c', r', ob⟩ : Row).void = (⟨c, r, ob⟩ : Row).void := by
  cases ob with
  | cells sy => show c'.isEmpty = c.isEmpty; cases c <;> cases c' <;> simp_all
  | _ => rfl
theorem mArgF_ok {cap : FuncId → List TypeId} {h : Hp} {bk : List Bk} {t : TypeId} {v : Value} {c : Cst} (hc : mArgF P cap h bk t v = some c) (hp : c.p) (hi : MI B μ h bk w) {w' : Value} (hv : VR μ v w') :
    ∃ μ', MI B μ' c.h c.bk w ∧ MS μ h bk w μ' c.h c.bk ∧
      ∀ (μf : Mu) (bkf : List Bk) (μc : Mu), Le μ' μf → (∀ (i : Nat) b, c.bk[i]? = some b → bkf[i]? = some b) → Rel μf bkf μc → VR μc c.v w' := by
  unfold mArgF at hc
  split at hc
  · rename_i g y
    split at hc
    · rename_i d hd
      simp only [Option.some.injEq] at hc; subst hc
      cases hv with
      | func _ _ _ x' y' hx hy h1 h2 =>
        obtain ⟨μ1, a1, a2, a3⟩ := mMany_ok (inn := true) _ _ _ _ _ _ hd hp hi [] (fun h => by simp at h)
        refine ⟨μ1, a1, a2, fun μf bkf μc hle hpre hrel => ?_⟩
        have hl := a3 μf bkf μc (fun h => by simp at h) hpre hrel _ (fun h => by simp at h) (VRs.le (VRs.of_array hy h2) (a2.le.trans hle))
        have hx0 : x' = #[] := by
          have : x'.size = 0 := by simpa using hx.symm
          exact Array.eq_empty_of_size_eq_zero this
        subst hx0
        exact .func _ _ _ _ _ rfl (by have := hl.1; simpa using this) (fun i h => by simp at h) (fun i h h' => hl.2 i _ _ (by simp at h ⊢) (by simp at h' ⊢))
    · simp at hc
  · rename_i vs
    split at hc
    · rename_i ts hts
      split at hc
      · rename_i d hd
        simp only [Option.some.injEq] at hc; subst hc
        cases hv with
        | agg _ x' hx hh' =>
          obtain ⟨μ1, a1, a2, a3⟩ := mMany_ok (inn := true) _ _ _ _ _ _ hd hp hi [] (fun h => by simp at h)
          refine ⟨μ1, a1, a2, fun μf bkf μc hle hpre hrel => ?_⟩
          have := (a3 μf bkf μc (fun h => by simp at h) hpre hrel _ (fun h => by simp at h) (VRs.le (VRs.of_array hx hh') (a2.le.trans hle))).agg
          simpa using this
      · simp at hc
    · simp at hc
  · exact mArgW_ok hc hp hi hv
theorem mArgsF_ok {cap : FuncId → List TypeId} : ∀ (ts : List TypeId) (vs : List Value) (μ : Mu) (h : Hp) (bk : List Bk) (d : Csts), mArgsF P cap ts vs h bk = some d → d.p → MI B μ h bk w → ∀ ws, VRs μ vs ws →
    ∃ μ', MI B μ' d.h d.bk w ∧ MS μ h bk w μ' d.h d.bk ∧
      ∀ (μf : Mu) (bkf : List Bk) (μc : Mu), Le μ' μf → (∀ (i : Nat) b, d.bk[i]? = some b → bkf[i]? = some b) → Rel μf bkf μc → VRs μc d.vs ws := by
  intro ts
  induction ts with
  | nil =>
    intro vs μ h bk d hd hp hi ws hv
    cases vs with
    | nil =>
      simp only [mArgsF, Option.some.injEq] at hd; subst hd
      refine ⟨μ, hi, .refl _ _ _ _, fun μf bkf μc _ _ _ => ?_⟩
      have : ws = [] := List.eq_nil_of_length_eq_zero (by have := hv.1; simpa using this.symm)
      subst this; exact .nil
    | cons => simp [mArgsF] at hd
  | cons t ts ih =>
    intro vs μ h bk d hd hp hi ws hv
    cases vs with
    | nil => simp [mArgsF] at hd
    | cons v vs =>
      simp only [mArgsF] at hd
      split at hd
      · rename_i c hc
        split at hd
        · rename_i d1 hd1
          simp only [Option.some.injEq] at hd; subst hd
          obtain ⟨w', ws', rfl, h1, h2⟩ := VRs.uncons hv
          obtain ⟨μ1, a1, a2, a3⟩ := mArgF_ok hc hp.1 hi h1
          obtain ⟨μ2, b1, b2, b3⟩ := ih _ _ _ _ _ hd1 hp.2 a1 ws' (h2.le a2.le)
          exact ⟨μ2, b1, a2.trans b2, fun μf bkf μc hle hpre hrel => .cons (a3 μf bkf μc (b2.le.trans hle) (fun i b hb => hpre i b (b2.pre i b hb)) hrel) (b3 μf bkf μc hle hpre hrel)⟩
        · simp at hd
      · simp at hd
def RowRel (h : Hp) (bkf : List Bk) (b : Bk) (row : Row) : Prop :=
  match b with
  | .ro r o n => ∃ cells ro sy, h.rows.find r = some ⟨cells, ro, .cells sy⟩ ∧ row = ⟨(cells.drop o).take n, true, .cells true⟩
  | .gh _ z o n => row = ⟨((gCells z).drop o).take n, true, .cells true⟩
  | .own r _ => ∃ cells cells' ob, h.rows.find r = some ⟨cells, false, ob⟩ ∧ row = ⟨cells', false, ob⟩ ∧ cells'.length = cells.length ∧ isCm ob = true ∧
      ∀ μf μc, Rel μf bkf μc → ∀ ws, VRs μf cells ws → VRs μc cells' ws
theorem mRowIn_ok {wn : Bool} {h : Hp} {bk : List Bk} {b : Bk} {c : Crow} (hc : mRowIn P wn h bk b = some c) (hp : c.p) (hi : MI B μ h bk w) :
    ∃ μ', MI B μ' c.h c.bk w ∧ MS μ h bk w μ' c.h c.bk ∧ ∀ (h2 : Hp) (bkf : List Bk), (∀ r row, h.rows.find r = some row → h2.rows.find r = some row) → (∀ (i : Nat) b, c.bk[i]? = some b → bkf[i]? = some b) → RowRel h2 bkf b c.row := by
  unfold mRowIn at hc
  split at hc
  · split at hc
    · rename_i hr
      simp only [Option.some.injEq] at hc; subst hc
      exact ⟨μ, hi, .refl _ _ _ _, fun h2 bkf hf _ => ⟨_, _, _, hf _ _ hr, rfl⟩⟩
    · simp at hc
  · simp only [Option.some.injEq] at hc; subst hc
    exact ⟨μ, hi, .refl _ _ _ _, fun h2 bkf hf _ => rfl⟩
  · split at hc
    · rename_i cells hr
      simp only [Option.some.injEq] at hc; subst hc
      exact ⟨μ, hi, .refl _ _ _ _, fun h2 bkf hf _ => ⟨_, _, _, hf _ _ hr, rfl, rfl, rfl, fun μf μc hrel ws hv => plain_vrs hrel.2 hp hv⟩⟩
    · rename_i cells hr
      split at hc
      · rename_i d hd
        simp only [Option.some.injEq] at hc; subst hc
        obtain ⟨μ1, a1, a2, a3⟩ := mMany_ok (inn := true) _ _ _ _ _ _ hd hp hi [] (fun h => by simp at h)
        refine ⟨μ1, a1, a2, fun h2 bkf hf hpre => ⟨_, _, _, hf _ _ hr, rfl, ?_, rfl, fun μf μc hrel ws hv => a3 μf bkf μc (fun h => by simp at h) hpre hrel ws (fun h => by simp at h) hv⟩⟩
        exact mMany_len _ _ _ _ _ hd
      · cases hw : (wn && cells.all (noAddr 12)) with
        | false => rw [hw] at hc; simp at hc
        | true =>
          rw [hw] at hc
          simp only [cond_true, Option.some.injEq] at hc; subst hc
          simp only [Bool.and_eq_true, List.all_eq_true] at hw
          exact ⟨μ, hi, .refl _ _ _ _, fun h2 bkf hf _ => ⟨_, _, _, hf _ _ hr, rfl, rfl, rfl, fun μf μc hrel ws hv => plain_vrs hrel.2 hw.2 hv⟩⟩
    · rename_i cells hr
      simp only [Option.some.injEq] at hc; subst hc
      exact ⟨μ, hi, .refl _ _ _ _, fun h2 bkf hf _ => ⟨_, _, _, hf _ _ hr, rfl, rfl, rfl, fun μf μc hrel ws hv => plain_vrs hrel.2 hp hv⟩⟩
    · simp at hc
where
  mMany_len {P : Program} {inn : Bool} : ∀ (ts : List TypeId) (vs : List Value) (h : Hp) (bk : List Bk) (d : Csts), mMany P inn wn ts vs h bk = some d → d.vs.length = vs.length := by
    intro ts
    induction ts with
    | nil => intro vs h bk d hd; cases vs <;> simp [mMany] at hd; subst hd; rfl
    | cons t ts ih =>
      intro vs h bk d hd
      cases vs with
      | nil => simp [mMany] at hd
      | cons v vs =>
        simp only [mMany] at hd
        split at hd
        · split at hd
          · rename_i d1 hd1
            simp only [Option.some.injEq] at hd; subst hd
            simp [ih _ _ _ _ hd1]
          · simp at hd
        · simp at hd
theorem mRowsIn_ok {wn : Bool} : ∀ (f j : Nat) (μ : Mu) (h : Hp) (bk : List Bk) (d : Crows), mRowsIn P wn f j h bk = some d → d.p → j ≤ bk.length → MI B μ h bk w →
    ∃ μ', MI B μ' d.h d.bk w ∧ MS μ h bk w μ' d.h d.bk ∧ j + d.rows.length = d.bk.length ∧ ∀ (k : Nat) row, d.rows[k]? = some row → ∃ b, d.bk[j + k]? = some b ∧ RowRel d.h d.bk b row := by
  intro f
  induction f with
  | zero => intro j μ h bk d hd; simp [mRowsIn] at hd
  | succ f ih =>
    intro j μ h bk d hd hp hj hi
    simp only [mRowsIn] at hd
    split at hd
    · rename_i hb
      simp only [Option.some.injEq] at hd; subst hd
      have : bk.length ≤ j := List.getElem?_eq_none_iff.1 hb
      exact ⟨μ, hi, .refl _ _ _ _, by simp; omega, fun k row hk => by simp at hk⟩
    · rename_i b hb
      split at hd
      · rename_i c hc
        split at hd
        · rename_i d1 hd1
          simp only [Option.some.injEq] at hd; subst hd
          have hjl := (List.getElem?_eq_some_iff.1 hb).1
          obtain ⟨μ1, a1, a2, a3⟩ := mRowIn_ok hc hp.1 hi
          have hb1 := a2.pre _ _ hb
          obtain ⟨μ2, b1, b2, b3, b4⟩ := ih _ _ _ _ _ hd1 hp.2 (by have := (List.getElem?_eq_some_iff.1 hb1).1; omega) a1
          refine ⟨μ2, b1, a2.trans b2, by simp only [List.length_cons]; omega, fun k row hk => ?_⟩
          cases k with
          | zero =>
            simp at hk; subst hk
            exact ⟨b, b2.pre _ _ hb1, a3 _ _ (fun r row h => b2.find _ _ (a2.find _ _ h)) b2.pre⟩
          | succ k =>
            simp at hk
            obtain ⟨b', g1, g2⟩ := b4 k row hk
            exact ⟨b', by rw [show j + (k + 1) = j + 1 + k by omega]; exact g1, g2⟩
        · simp at hd
      · simp at hd
def muIn (μ : Mu) (bk : List Bk) : Mu := fun i => match bk[i]? with | some b => bkMu μ b | none => gMu μ i
theorem muIn_at (μ : Mu) (bk : List Bk) : ∀ (i : Nat) b, bk[i]? = some b → muIn μ bk i = bkMu μ b := fun i b h => by unfold muIn; rw [h]
theorem muIn_g (μ : Mu) {bk : List Bk} (h : bk.length ≤ Tr.top) (z i : Nat) : muIn μ bk (gAt z i) = μ (gAt z i) := by
  unfold muIn; rw [List.getElem?_eq_none (by have := gAt_ge z i; omega)]; exact gMu_at μ z i
theorem muIn_rel (μ : Mu) {bk : List Bk} (h : bk.length ≤ Tr.top) : Rel μ bk (muIn μ bk) := ⟨muIn_at μ bk, fun z i _ hp => (muIn_g μ h z i).trans hp⟩
theorem muIn_only (μ : Mu) (bk : List Bk) : OnlyG bk.length (muIn μ bk) := fun r hr hg => by unfold muIn; rw [List.getElem?_eq_none hr]; exact gMu_out μ hg
def Handed (μ : Mu) (h : Hp) (bk : List Bk) (b : Nat) : Prop := ∃ (i : Nat) (r : Nat) (ts : List TypeId) (row : Row) (o s : Nat), bk[i]? = some (.own r ts) ∧ h.rows.find r = some row ∧ row.void = false ∧ row.ro = false ∧ μ r = some (b, o, s)
def baseIn (μ : Mu) (h : Hp) (bk : List Bk) (w : World) : Base := ⟨fun b => w.heap.size ≤ b ∨ Handed μ h bk b, fun _ => False⟩
theorem MI.mu {h : Hp} {bk : List Bk} (hi : MI B μ h bk w) {i : Nat} {b : Bk} (hb : bk[i]? = some b) : ∃ q, μ b.at.1 = some q := by
  cases b with
  | ro r o n => obtain ⟨_, _, _, h1, _⟩ := hi.ent i _ hb; exact wr_mu hi.wr h1
  | own r ts => obtain ⟨_, _, h1⟩ := hi.ent i _ hb; exact wr_mu hi.wr h1
  | gh q z o n => obtain ⟨b, ob, s, h1, _⟩ := hi.gh i _ _ _ _ hb; exact ⟨_, h1⟩
theorem gOk_noAddr {v : Value} (h : gOk v = true) : noAddr 12 v = true := by
  rcases gOk_cases h with ⟨x, rfl⟩ | ⟨k, n, rfl⟩ | ⟨x, rfl⟩ | ⟨k, n, rfl⟩ | ⟨z, o, n, e, rfl⟩ | ⟨z, o, rfl⟩ | rfl | rfl | rfl | rfl <;> rfl
theorem gCells_plain (z o n : Nat) : Plain (((gCells z).drop o).take n) := by
  intro v hv
  have h := gCells_all z
  unfold gAll at h
  rw [List.all_eq_true] at h
  exact gOk_noAddr (h v (List.mem_of_mem_drop (List.mem_of_mem_take hv)))
theorem void_iff {c : List Value} {ro sy : Bool} : (⟨c, ro, .cells sy⟩ : Row).void = c.isEmpty := rfl
theorem MI.ownsIn {h : Hp} {bk : List Bk} (hi : MI B μ h bk w) {rows : List Row} (ht : rows.length ≤ Tr.top) (hrows : ∀ (k : Nat) row, rows[k]? = some row → ∃ b, bk[k]? = some b ∧ RowRel h bk b row) {b : Nat}
    (ho : Owns (muIn μ bk) (mkR (nums 0 rows)).find b) : Handed μ h bk b := by
  obtain ⟨r, row, o, s, hr, hv, hro, hm⟩ := ho
  rw [nums_find _ _ _ (by omega), if_pos (Nat.zero_le _)] at hr
  obtain ⟨bb, hb, hrel⟩ := hrows r row (by simpa using hr)
  cases bb with
  | ro q o n => obtain ⟨_, _, _, _, rfl⟩ := hrel; simp at hro
  | gh q z o n => simp only [RowRel] at hrel; subst hrel; simp at hro
  | own q ts =>
    obtain ⟨cells, cells', ob, h1, rfl, h3, _⟩ := hrel
    have hv0 : (⟨cells, false, ob⟩ : Row).void = false := by rw [← void_len (r' := false) h3]; exact hv
    obtain ⟨⟨b', o', s'⟩, hq⟩ := wr_mu hi.wr h1
    rw [muIn_at μ bk r _ hb] at hm
    unfold bkMu at hm
    simp only [Bk.at, hq, Nat.add_zero, Option.some.injEq, Prod.mk.injEq] at hm
    obtain ⟨rfl, rfl, rfl⟩ := hm
    exact ⟨r, q, ts, _, _, _, hb, h1, hv0, rfl, hq⟩
theorem Handed.owns {h : Hp} {bk : List Bk} {b : Nat} (hh : Handed μ h bk b) : Owns μ h.rows.find b := by
  obtain ⟨i, r, ts, row, o, s, _, h2, h3, h4, h5⟩ := hh
  exact ⟨r, row, o, s, h2, h3, h4, h5⟩
theorem MI.wrIn {h : Hp} {bk : List Bk} (hi : MI B μ h bk w) (hok : bkOk bk = true) {rows : List Row} (hlen : rows.length = bk.length) (ht : rows.length ≤ Tr.top) (hrows : ∀ (k : Nat) row, rows[k]? = some row → ∃ b, bk[k]? = some b ∧ RowRel h bk b row) :
    WR (baseIn μ h bk w) (muIn μ bk) (mkR (nums 0 rows)).find rows.length w := by
  have at' : ∀ r row, (mkR (nums 0 rows)).find r = some row → ∃ b, bk[r]? = some b ∧ RowRel h bk b row := by
    intro r row hr
    rw [nums_find _ _ _ (by omega), if_pos (Nat.zero_le _)] at hr
    exact hrows r row (by simpa using hr)
  have hmu : ∀ r b, bk[r]? = some b → muIn μ bk r = bkMu μ b := fun r b hb => muIn_at μ bk r b hb
  have key : ∀ r row, (mkR (nums 0 rows)).find r = some row → row.void = false → row.ro = false → ∃ q ts row0 b o s, bk[r]? = some (.own q ts) ∧ h.rows.find q = some row0 ∧ row0.void = false ∧ row0.ro = false ∧ μ q = some (b, o, s) ∧ muIn μ bk r = some (b, o, s) := by
    intro r row hr hv hro
    obtain ⟨bb, hb, hrel⟩ := at' r row hr
    cases bb with
    | ro q o n => obtain ⟨_, _, _, _, rfl⟩ := hrel; simp at hro
    | gh q z o n => simp only [RowRel] at hrel; subst hrel; simp at hro
    | own q ts =>
      obtain ⟨cells, cells', ob, h1, rfl, h3, _⟩ := hrel
      have hv0 : (⟨cells, false, ob⟩ : Row).void = false := by rw [← void_len (r' := false) h3]; exact hv
      obtain ⟨⟨b, o, s⟩, hq⟩ := wr_mu hi.wr h1
      refine ⟨q, ts, _, b, o, s, hb, h1, hv0, rfl, hq, ?_⟩
      rw [hmu r _ hb]; unfold bkMu; simp only [Bk.at, hq, Nat.add_zero]
  have hbt : bk.length ≤ Tr.top := by omega
  have hgl : GLe μ (muIn μ bk) := (muIn_rel μ hbt).2
  refine ⟨fun b hb => .inl hb, fun _ hz => hz.elim, fun r hr hr2 => ?_, fun r row hr hv => ?_, fun r row hr hv => ?_, fun r q x y b o s o' s' hx hy hxv hyv hxr hyr hm1 hm2 => ?_,
    fun z i b o s hm => ⟨gIn_g hgl (hi.wr.gho z i b o s ((muIn_g μ hbt z i).symm.trans hm)).1, fun ho => (hi.wr.gho z i b o s ((muIn_g μ hbt z i).symm.trans hm)).2 (hi.ownsIn ht hrows ho).owns⟩,
    by obtain ⟨K, hK⟩ := hi.wr.gfr; exact ⟨K, fun z i hi2 => (muIn_g μ hbt z i).trans (hK z i hi2)⟩, ⟨hi.wr.tab.1, fun g hg ho => ho.elim (fun hb => by have := hi.wr.tab.1.lt hg; omega) fun hb => hi.wr.tab.2 g hg (hi.wr.owned (Handed.owns hb))⟩⟩
  · exact muIn_only μ bk r (by omega) (lt_noG hr2)
  · obtain ⟨bb, hb, hrel⟩ := at' r row hr
    cases bb with
    | ro q o n =>
      obtain ⟨cells, ro, sy, h1, rfl⟩ := hrel
      obtain ⟨cells2, ro2, sy2, h2, h3, h4⟩ := hi.ent r _ hb
      rw [h1] at h2
      simp only [Option.some.injEq, Row.mk.injEq, Ob.cells.injEq] at h2
      obtain ⟨rfl, rfl, rfl⟩ := h2
      rw [void_iff] at hv
      have hlen2 : ((cells.drop o).take n).length = n := by simp; omega
      have hne : 0 < n := by
        rcases Nat.eq_zero_or_pos n with h0 | h0
        · subst h0; simp at hv
        · exact h0
      obtain ⟨⟨b, ob, s⟩, hq⟩ := wr_mu hi.wr h1
      obtain ⟨c, e, ⟨lo, hi'⟩, g1, g2, g3, g4⟩ := row_cells (cells := cells) hi.wr h1 (by omega) (k := o) (m := n) h3 hq
      have hv1 : (⟨cells, ro, .cells sy⟩ : Row).void = false := void_cells (by omega)
      refine ⟨b, ob + o, s, c, e, lo, hi', ?_, g1, g2, ?_, ?_, fun h => by simp at h, fun _ => ?_⟩
      · rw [hmu r _ hb]; unfold bkMu; simp only [Bk.at, hq]
      · simp only; rw [hlen2]; omega
      · simp only; rw [hlen2]; exact plain_vrs hgl h4 g4
      · rintro (hsz | ⟨i, r2, ts2, row2, o2, s2, f1, f2, f3, f4, f5⟩)
        · have := (Array.getElem?_eq_some_iff.1 g1).1; omega
        · have hne2 : r2 ≠ q := by
            intro e2
            subst e2
            have h5 := (List.all_eq_true.1 hok) _ (List.mem_of_getElem? hb)
            simp only at h5
            split at h5
            · simp at h5
            · rename_i h6; exact (bkFind_spec bk r2 0).2 h6 _ _ f1
          cases ro with
          | true =>
            obtain ⟨b3, _, _, _, m1, _, _, m2⟩ := (hi.wr.rows q _ h1 hv1).mu
            obtain ⟨b4, _, _, _, m3, _, m4, _⟩ := (hi.wr.rows r2 _ f2 f3).mu
            rw [hq] at m1; rw [f5] at m3
            simp at m1 m3
            have k1 := m2 rfl; have k2 := m4 f4
            rw [← m1.1] at k1; rw [← m3.1] at k2
            exact k1 k2
          | false => exact hne2 (hi.wr.apart r2 q row2 _ b o2 s2 ob s f2 h1 f3 hv1 f4 rfl f5 hq)
    | gh q z o n =>
      simp only [RowRel] at hrel
      subst hrel
      have hlz : o + n ≤ (gCells z).length := hi.ent r _ hb
      have hlen2 : (((gCells z).drop o).take n).length = n := by simp; omega
      rw [void_iff] at hv
      have hne : 0 < n := by
        rcases Nat.eq_zero_or_pos n with h0 | h0
        · subst h0; simp at hv
        · exact h0
      obtain ⟨b, ob, s, g1, g2⟩ := hi.gh r _ _ _ _ hb
      rcases g2 with g2 | ⟨j, ob', g2, rfl⟩
      · omega
      · have hgho := hi.wr.gho z j b ob' s g2
        obtain ⟨c, e, ⟨lo, hi'⟩, k1, k2, k3, k4⟩ := g_cells hi.wr (k := o) (m := n) hlz g2
        refine ⟨b, ob' + o, s, c, e, lo, hi', ?_, k1, k2, ?_, ?_, fun h => by simp at h, fun _ => ?_⟩
        · rw [hmu r _ hb]; unfold bkMu; simp only [Bk.at, g1, Nat.add_zero]
        · simp only; rw [hlen2]; omega
        · simp only; rw [hlen2]; exact plain_vrs hgl (gCells_plain z o n) k4
        · rintro (hsz | hh)
          · have := hgho.1.lt; omega
          · exact hgho.2 hh.owns
    | own q ts =>
      obtain ⟨q2, ts2, row0, b, o, s, e1, e2, e3, e4, e5, e6⟩ := key r row hr hv (by obtain ⟨_, _, _, _, rfl, _⟩ := hrel; rfl)
      rw [hb] at e1
      simp only [Option.some.injEq, Bk.own.injEq] at e1
      obtain ⟨rfl, rfl⟩ := e1
      obtain ⟨cells, cells', ob, h1, rfl, h3, hcm, h4⟩ := hrel
      rw [h1] at e2
      simp only [Option.some.injEq] at e2; subst e2
      cases ob with
      | iter => simp [isCm] at hcm
      | map sy =>
        obtain ⟨b', es, t, g1, g2, g3, g4, g5⟩ := hi.wr.rows q _ h1 e3
        rw [e5] at g1
        simp only [Option.some.injEq, Prod.mk.injEq] at g1
        obtain ⟨rfl, rfl, rfl⟩ := g1
        exact ⟨b, es, t, e6, g2, h4 μ _ (muIn_rel μ hbt) _ g3, rfl, .inr ⟨r, q, ts, _, 0, 1, hb, h1, e3, rfl, e5⟩⟩
      | cells sy =>
      obtain ⟨b', o', s', c, e, lo, hi', g1, g2, g3, g4, g5, g6, g7⟩ := hi.wr.rows q _ h1 e3
      rw [e5] at g1
      simp only [Option.some.injEq, Prod.mk.injEq] at g1
      obtain ⟨rfl, rfl, rfl⟩ := g1
      refine ⟨b, o, s, c, e, lo, hi', e6, g2, g3, ?_, ?_, fun _ => ⟨.inr ⟨r, q, ts, _, o, s, hb, h1, e3, rfl, e5⟩, (g6 rfl).2⟩, fun h => by simp at h⟩
      · simp only at g4 ⊢; rw [h3]; exact g4
      · simp only at g5 ⊢; rw [h3]; exact h4 μ _ (muIn_rel μ hbt) _ g5
  · obtain ⟨bb, hb, hrel⟩ := at' r row hr
    obtain ⟨⟨b, o, s⟩, hq⟩ := hi.mu hb
    have hm : muIn μ bk r = some (b, o + bb.at.2, s) := by rw [hmu r _ hb]; unfold bkMu; rw [hq]
    refine ⟨_, _, _, hm, fun hro => ?_⟩
    cases bb with
    | ro q o n => obtain ⟨_, _, _, _, rfl⟩ := hrel; simp at hro
    | gh q z o n => simp only [RowRel] at hrel; subst hrel; simp at hro
    | own q ts =>
      obtain ⟨cells, cells', ob, h1, rfl, h3, _⟩ := hrel
      have hv0 : (⟨cells, false, ob⟩ : Row).void = true := by rw [← void_len (r' := false) h3]; exact hv
      obtain ⟨b1, o1, s1, k1, k2⟩ := hi.wr.vrow q _ h1 hv0
      simp only [Bk.at] at hq
      rw [hq] at k1
      simp only [Option.some.injEq, Prod.mk.injEq] at k1
      obtain ⟨rfl, rfl, rfl⟩ := k1
      exact k2 rfl
  · obtain ⟨q1, t1, x0, b1, o1, s1, a1, a2, a3, a4, a5, a6⟩ := key r x hx hxv hxr
    obtain ⟨q2, t2, y0, b2, o2, s2, c1, c2, c3, c4, c5, c6⟩ := key q y hy hyv hyr
    rw [a6] at hm1; rw [c6] at hm2
    simp only [Option.some.injEq, Prod.mk.injEq] at hm1 hm2
    obtain ⟨rfl, _, _⟩ := hm1
    obtain ⟨rfl, _, _⟩ := hm2
    have := hi.wr.apart q1 q2 x0 y0 _ o1 s1 o2 s2 a2 c2 a3 c3 a4 c4 a5 c5
    subst this
    exact hi.inj _ _ _ _ _ a1 c1
theorem MI.notHanded {h : Hp} {bk : List Bk} (hi : MI B μ h bk w) {r : Nat} {row : Row} {b o s : Nat} (hr : h.rows.find r = some row) (hv : row.void = false) (hm : μ r = some (b, o, s)) (hno : ∀ (i : Nat) ts, bk[i]? ≠ some (.own r ts)) : ¬ Handed μ h bk b := by
  rintro ⟨i, r2, ts, row2, o2, s2, f1, f2, f3, f4, f5⟩
  have hne : r2 ≠ r := fun e => by subst e; exact hno _ _ f1
  cases hro : row.ro with
  | true =>
    obtain ⟨b3, _, _, _, m1, _, _, m2⟩ := (hi.wr.rows r _ hr hv).mu
    obtain ⟨b4, _, _, _, m3, _, m4, _⟩ := (hi.wr.rows r2 _ f2 f3).mu
    rw [hm] at m1; rw [f5] at m3
    simp at m1 m3
    have k1 := m2 hro; have k2 := m4 f4
    rw [← m1.1] at k1; rw [← m3.1] at k2
    exact k1 k2
  | false => exact hne (hi.wr.apart r2 r row2 _ b o2 s2 o s f2 hr f3 hv f4 hro f5 hm)
end
theorem eV_vr {μ' μ2 : Mu} (hG : GLe μ' μ2) {bk : List Bk} {next n' : Nat} (hR : ∀ i r d, eRow bk next n' i = some (r, d) → ∀ b o s, μ' i = some (b, o, s) → ∃ o0, o = o0 + d ∧ μ2 r = some (b, o0, s)) :
    ∀ (n : Nat) (v v' w : Value), eV bk next n' n v = some v' → VR μ' v w → VR μ2 v' w := by
  intro n
  induction n with
  | zero => intro v v' w h; simp [eV] at h
  | succ n ih =>
    intro v v' w h hv
    unfold eV at h
    split at h
    · simp only [Option.some.injEq] at h; subst h; cases hv; exact .int _ _
    · simp only [Option.some.injEq] at h; subst h; cases hv; exact .bool _
    · simp only [Option.some.injEq] at h; subst h; cases hv; exact .str _
    · simp only [Option.some.injEq] at h; subst h
      cases hv with
      | float => exact .float _ _
      | nan _ _ _ h h' => exact .nan _ _ _ h h'
    · simp only [Option.some.injEq] at h; subst h; cases hv; exact .pnil
    · simp only [Option.some.injEq] at h; subst h; cases hv; exact .snil
    · simp only [Option.some.injEq] at h; subst h; cases hv; exact .nilFunc
    · simp only [Option.some.injEq] at h; subst h; cases hv; exact .nilIface
    · rename_i i k m e
      split at h
      · rename_i r d hb
        simp only [Option.some.injEq] at h; subst h
        cases hv with
        | slice _ _ _ _ b o s c hm hn hc =>
          obtain ⟨o0, rfl, h2⟩ := hR _ _ _ hb _ _ _ hm
          rw [show o0 + d + k = o0 + (d + k) by omega]
          exact .slice r (d + k) m e b o0 s c h2 hn (by omega)
        | slice0 => exact .slice0 _ _ _ _
      · simp at h
    · rename_i i k
      split at h
      · rename_i r d hb
        simp only [Option.some.injEq] at h; subst h
        cases hv with
        | ptr _ _ b o s hm =>
          obtain ⟨o0, rfl, h2⟩ := hR _ _ _ hb _ _ _ hm
          rw [show o0 + d + k = o0 + (d + k) by omega]
          exact .ptr r (d + k) b o0 s h2
      · simp at h
    · simp only [Option.some.injEq] at h; subst h
      cases hv with
      | gsl _ _ _ _ i b o s c hb hn hc => exact .gsl _ _ _ _ i b o s c (hG _ _ _ hb) hn hc
      | gsl0 => exact .gsl0 _ _ _ _
    · simp only [Option.some.injEq] at h; subst h
      cases hv with
      | gptr _ _ i b o s hb => exact .gptr _ _ i b o s (hG _ _ _ hb)
    · rename_i i
      split at h
      · rename_i r hb
        simp only [Option.some.injEq] at h; subst h
        cases hv with
        | mapp _ b hm =>
          obtain ⟨o0, e0, h2⟩ := hR _ _ _ hb _ _ _ hm
          have : o0 = 0 := by omega
          subst this
          exact .mapp r b h2
      · simp at h
    · rename_i x
      split at h
      · rename_i l hl
        simp only [Option.some.injEq] at h; subst h
        cases hv with
        | agg _ x' hx hh =>
          have := (bMany_vrs (fun v v' w => ih v v' w) hl (VRs.of_array hx hh)).agg
          simpa using this
      · simp at h
    · rename_i x
      split at h
      · rename_i l hl
        simp only [Option.some.injEq] at h; subst h
        cases hv with
        | tuple _ x' hx hh =>
          have := (bMany_vrs (fun v v' w => ih v v' w) hl (VRs.of_array hx hh)).tuple
          simpa using this
      · simp at h
    · simp at h
def Came (bk : List Bk) (next n' : Nat) (row row0 : Row) : Prop :=
  row.ro = false ∧ row0.ro = false ∧ ∃ ob, row.ob = ob ∧ row0.ob = ob ∧ isCm ob = true ∧ ((row.cells = row0.cells ∧ Plain row0.cells) ∨ bMany (eV bk next n' 12) row0.cells = some row.cells)
theorem eDest_lt {bk : List Bk} {next n' i r : Nat} (hok : bkOk bk = true) (hn : next + n' ≤ 1000000) (h : eDest bk next n' i = some r) : r < 1000000 := by
  unfold eDest at h
  split at h
  · rename_i q ts hb
    simp only [Option.some.injEq] at h; subst h
    have := (List.all_eq_true.1 hok) _ (List.mem_of_getElem? hb)
    exact Nat.le_of_ble_eq_true this
  · simp at h
  · simp at h
  · cases hi : Nat.blt i n' with
    | false => rw [hi] at h; simp at h
    | true =>
      rw [hi] at h
      simp only [cond_true, Option.some.injEq] at h
      have : i < n' := Nat.le_of_ble_eq_true hi
      omega
theorem eRows_spec {bk : List Bk} {next n' : Nat} (hok : bkOk bk = true) (hn : next + n' ≤ 1000000) : ∀ (l : List (Nat × Row)) (t : Tr Row) (p : Prop) (t' : Tr Row), eRows bk next n' l t = some (p, t') → p →
    ∀ r row, t'.find r = some row → (∃ i row0, (i, row0) ∈ l ∧ eDest bk next n' i = some r ∧ Came bk next n' row row0) ∨ ((∀ i row0, (i, row0) ∈ l → eDest bk next n' i ≠ some r) ∧ t.find r = some row) := by
  intro l
  induction l with
  | nil => intro t p t' h hp r row hr; simp [eRows] at h; obtain ⟨_, rfl⟩ := h; exact .inr ⟨fun i row0 hi => by simp at hi, hr⟩
  | cons x l ih =>
    intro t p t' h hp r row hr
    obtain ⟨i, x⟩ := x
    simp only [eRows] at h
    split at h
    · rename_i hd
      rcases ih _ _ _ h hp r row hr with ⟨j, row0, h1, h2, h3⟩ | ⟨h1, h2⟩
      · exact .inl ⟨j, row0, List.mem_cons_of_mem _ h1, h2, h3⟩
      · refine .inr ⟨fun j row0 hj => ?_, h2⟩
        rcases List.mem_cons.1 hj with e | hj
        · simp only [Prod.mk.injEq] at e; rw [e.1, hd]; simp
        · exact h1 j row0 hj
    · rename_i q hd
      have hq := eDest_lt hok hn hd
      have fin : ∀ (t1 : Tr Row) (p1 : Prop) (y : Row), eRows bk next n' l t = some (p1, t1) → p1 → Came bk next n' y x → (t1.put q (some y)).find r = some row →
          (∃ i' row0, (i', row0) ∈ (i, x) :: l ∧ eDest bk next n' i' = some r ∧ Came bk next n' row row0) ∨ ((∀ i' row0, (i', row0) ∈ (i, x) :: l → eDest bk next n' i' ≠ some r) ∧ t.find r = some row) := by
        intro t1 p1 y h1 hp1 hc hf
        rw [Tr.find_put _ _ _ _ (by unfold Tr.top; omega)] at hf
        split at hf
        · rename_i e
          simp only [Option.some.injEq] at hf
          subst hf; subst e
          exact .inl ⟨i, x, List.mem_cons_self, hd, hc⟩
        · rename_i e
          rcases ih _ _ _ h1 hp1 r row hf with ⟨j, row0, g1, g2, g3⟩ | ⟨g1, g2⟩
          · exact .inl ⟨j, row0, List.mem_cons_of_mem _ g1, g2, g3⟩
          · refine .inr ⟨fun j row0 hj => ?_, g2⟩
            rcases List.mem_cons.1 hj with e2 | hj
            · simp only [Prod.mk.injEq] at e2; rw [e2.1, hd]
              intro e3; simp only [Option.some.injEq] at e3; exact e e3.symm
            · exact g1 j row0 hj
      split at h
      · split at h
        · rename_i p1 t1 h1
          simp only [Option.some.injEq, Prod.mk.injEq] at h
          obtain ⟨rfl, rfl⟩ := h
          exact fin t1 p1 _ h1 hp.2 ⟨rfl, rfl, _, rfl, rfl, rfl, .inl ⟨rfl, hp.1⟩⟩ hr
        · simp at h
      · split at h
        · rename_i cells' p1 t1 hb h1
          simp only [Option.some.injEq, Prod.mk.injEq] at h
          obtain ⟨rfl, rfl⟩ := h
          exact fin t1 p1 ⟨cells', false, .cells false⟩ h1 hp ⟨rfl, rfl, .cells false, rfl, rfl, rfl, .inr hb⟩ hr
        · simp at h
      · split at h
        · rename_i p1 t1 h1
          simp only [Option.some.injEq, Prod.mk.injEq] at h
          obtain ⟨rfl, rfl⟩ := h
          exact fin t1 p1 _ h1 hp.2 ⟨rfl, rfl, _, rfl, rfl, rfl, .inl ⟨rfl, hp.1⟩⟩ hr
        · simp at h
      · simp at h
theorem eDrop_spec : ∀ (bk : List Bk) (t : Tr Row), bkOk.go bk = true → ∀ r row, (eDrop bk t).find r = some row → t.find r = some row ∧ ∀ (i : Nat) ts, bk[i]? ≠ some (.own r ts) := by
  intro bk
  induction bk with
  | nil => intro t _ r row h; exact ⟨h, fun i ts hi => by simp at hi⟩
  | cons b l ih =>
    intro t hok r row h
    cases b with
    | gh q z o n =>
      simp only [bkOk.go, Bool.and_eq_true] at hok
      simp only [eDrop] at h
      obtain ⟨h1, h2⟩ := ih _ hok.2 _ _ h
      refine ⟨h1, fun i ts hi => ?_⟩
      cases i with
      | zero => simp at hi
      | succ i => exact h2 i ts (by simpa using hi)
    | ro q o n =>
      simp only [bkOk.go, Bool.and_eq_true] at hok
      simp only [eDrop] at h
      obtain ⟨h1, h2⟩ := ih _ hok.2 _ _ h
      refine ⟨h1, fun i ts hi => ?_⟩
      cases i with
      | zero => simp at hi
      | succ i => exact h2 i ts (by simpa using hi)
    | own q tq =>
      simp only [bkOk.go, Bool.and_eq_true] at hok
      simp only [eDrop] at h
      have hq : q < 1000000 := Nat.le_of_ble_eq_true hok.1
      rw [Tr.find_put _ _ _ _ (by unfold Tr.top; omega)] at h
      split at h
      · simp at h
      · rename_i e
        obtain ⟨h1, h2⟩ := ih _ hok.2 _ _ h
        refine ⟨h1, fun i ts hi => ?_⟩
        cases i with
        | zero => simp at hi; exact e hi.1.symm
        | succ i => exact h2 i ts (by simpa using hi)
theorem bkOk_go {bk : List Bk} (h : bkOk bk = true) : bkOk.go bk = true := by
  have h2 := List.all_eq_true.1 h
  have : ∀ l : List Bk, (∀ b ∈ l, b ∈ bk) → bkOk.go l = true := by
    intro l
    induction l with
    | nil => intro _; rfl
    | cons b l ih =>
      intro hl
      have := h2 b (hl b (by simp))
      have k := ih fun x hx => hl x (by simp [hx])
      cases b with
      | ro => simp only [bkOk.go, k]; rfl
      | gh => simp only [bkOk.go, k]; rfl
      | own r ts => simp only [bkOk.go, k, Bool.and_true]; exact this
  exact this bk fun _ h => h
theorem once_find : ∀ (l : List (Nat × Row)), once l = true → (∀ p ∈ l, p.1 < Tr.top) → ∀ i row, (i, row) ∈ l → (mkR l).find i = some row := by
  intro l
  induction l with
  | nil => intro _ _ i row h; simp at h
  | cons p l ih =>
    intro ho ht i row h
    simp only [once, Bool.and_eq_true, List.all_eq_true] at ho
    simp only [mkR]
    rw [Tr.find_put _ _ _ _ (ht p (by simp))]
    rcases List.mem_cons.1 h with e | h
    · subst e; simp
    · have := ho.1 _ h
      simp only [Bool.not_eq_true'] at this
      have hne : ¬ i = p.1 := fun e => by rw [e] at this; simp at this
      rw [if_neg hne]
      exact ih ho.2 (fun q hq => ht q (by simp [hq])) i row h
theorem eV_end {μ' μ2 : Mu} (hG : GLe μ' μ2) {bk : List Bk} {next n' : Nat} (hR : ∀ i r d, eRow bk next n' i = some (r, d) → ∀ b o s, μ' i = some (b, o, s) → ∃ o0, o = o0 + d ∧ μ2 r = some (b, o0, s)) {v v2 : Value} {e : Ending}
    (hv : eV bk next n' 12 v = some v2) (hmk : mkOk v v2 = true) (he : EnR μ' (endV v) e) : EnR μ2 (endV v2) e := by
  cases hm : isMk v with
  | false =>
    unfold mkOk at hmk
    rw [hm, Bool.or_false, Bool.and_eq_true] at hmk
    rw [noMark_end hmk.1] at he
    rw [noMark_end hmk.2]
    cases e with
    | returned v' => exact eV_vr hG hR 12 v v2 v' hv he
    | panicked ch => exact he.elim
    | outgrown => exact he.elim
  | true =>
    unfold isMk at hm
    split at hm
    · rename_i c x t a b
      have h1 : ∃ x2, eV bk next n' 11 x = some x2 ∧ v2 = .tuple ⟨[.nilFunc, .bool c, x2, .int .i64 t, .int .i64 a, .int .i64 b]⟩ := by
        have e12 : eV bk next n' 12 (.tuple ⟨[.nilFunc, .bool c, x, .int .i64 t, .int .i64 a, .int .i64 b]⟩) = (match bMany (eV bk next n' 11) [.nilFunc, .bool c, x, .int .i64 t, .int .i64 a, .int .i64 b] with | some l => some (.tuple ⟨l⟩) | none => none) := rfl
        have f1 : eV bk next n' 11 .nilFunc = some .nilFunc := rfl
        have f2 : ∀ b, eV bk next n' 11 (.bool b) = some (.bool b) := fun _ => rfl
        have f3 : ∀ k m, eV bk next n' 11 (.int k m) = some (.int k m) := fun _ _ => rfl
        rw [e12] at hv
        simp only [bMany, f1, f2, f3] at hv
        cases hx : eV bk next n' 11 x with
        | none => rw [hx] at hv; simp at hv
        | some x2 =>
          rw [hx] at hv
          simp only [Option.some.injEq] at hv
          exact ⟨x2, rfl, hv.symm⟩
      obtain ⟨x2, hx, rfl⟩ := h1
      cases c with
      | true =>
        cases e with
        | returned v' => exact eV_vr hG hR 11 x x2 v' hx he
        | panicked ch => exact he.elim
        | outgrown => exact he.elim
      | false =>
        cases e with
        | returned v' => exact he.elim
        | panicked ch => exact pan_flat _ _ _ _ _ _ he
        | outgrown => exact he.elim
    · rename_i c x t a b d t2 s n
      have h1 : ∃ x2, eV bk next n' 11 x = some x2 ∧ v2 = .tuple ⟨[.nilFunc, .bool c, x2, .int .i64 t, .int .i64 a, .int .i64 b, .bool d, .int .i64 t2, .string s, .int .i64 n]⟩ := by
        have e12 : eV bk next n' 12 (.tuple ⟨[.nilFunc, .bool c, x, .int .i64 t, .int .i64 a, .int .i64 b, .bool d, .int .i64 t2, .string s, .int .i64 n]⟩) = (match bMany (eV bk next n' 11) [.nilFunc, .bool c, x, .int .i64 t, .int .i64 a, .int .i64 b, .bool d, .int .i64 t2, .string s, .int .i64 n] with | some l => some (.tuple ⟨l⟩) | none => none) := rfl
        have f1 : eV bk next n' 11 .nilFunc = some .nilFunc := rfl
        have f2 : ∀ b, eV bk next n' 11 (.bool b) = some (.bool b) := fun _ => rfl
        have f3 : ∀ k m, eV bk next n' 11 (.int k m) = some (.int k m) := fun _ _ => rfl
        have f4 : ∀ s, eV bk next n' 11 (.string s) = some (.string s) := fun _ => rfl
        rw [e12] at hv
        simp only [bMany, f1, f2, f3, f4] at hv
        cases hx : eV bk next n' 11 x with
        | none => rw [hx] at hv; simp at hv
        | some x2 =>
          rw [hx] at hv
          simp only [Option.some.injEq] at hv
          exact ⟨x2, rfl, hv.symm⟩
      obtain ⟨x2, hx, rfl⟩ := h1
      cases c with
      | true =>
        cases e with
        | returned v' => exact eV_vr hG hR 11 x x2 v' hx he
        | panicked ch => exact he.elim
        | outgrown => exact he.elim
      | false =>
        cases d with
        | true =>
          cases e with
          | returned v' => exact he.elim
          | panicked ch => exact pan_str _ _ _ _ _ _ he
          | outgrown => exact he.elim
        | false =>
          cases e with
          | returned v' => exact he.elim
          | panicked ch => exact pan_flat _ _ _ _ _ _ he
          | outgrown => exact he.elim
    · simp at hm
theorem calls_conM {E : Env} {C : TabM} {known : FuncId → Bool} {cap : FuncId → List TypeId} (hT : E.T = tOfM E.P C known cap)
    (hC : ∀ f as rows p v n' rl, C f as rows = some (p, v, n', rl) → p → ConM E.P f as rows v n' rl) (hO : E.O = fun _ _ _ => none := by rfl) : CallsOk E.P (oOf E) := by
  intro B f args h r h' μ w args' he hw hargs hok
  rw [oOf_none E hO] at he
  rw [hT] at he
  split at he
  rotate_left
  · simp at he
  rename_i p v' hh ht
  split at he
  rotate_left
  · simp at he
  rename_i hp
  simp only [Option.some.injEq, Prod.mk.injEq] at he
  obtain ⟨rfl, rfl⟩ := he
  unfold tOfM at ht
  split at ht
  · simp at ht
  split at ht
  rotate_left
  · simp at ht
  rename_i fn hf
  have hcx : ∃ c wn, (mArgs E.P (fn.params.toList ++ cap f) args h [] = some c ∨ mArgsK E.P (fn.params.toList ++ cap f) args h [] = some c ∨ mArgsW E.P (fn.params.toList ++ cap f) args h [] = some c ∨ mArgsF E.P cap (fn.params.toList ++ cap f) args h [] = some c) ∧ tOfMc E.P C wn f c = some (p, v', hh) := by
    split at ht
    · rename_i r hr
      simp only [Option.some.injEq] at ht
      subst ht
      split at hr
      · rename_i c hc; exact ⟨c, _, .inl hc, hr⟩
      · simp at hr
    · split at ht
      · rename_i r hr
        simp only [Option.some.injEq] at ht
        subst ht
        split at hr
        · rename_i c hc; exact ⟨c, _, .inr (.inl hc), hr⟩
        · simp at hr
      · split at ht
        · rename_i r hr
          simp only [Option.some.injEq] at ht
          subst ht
          split at hr
          · rename_i c hc; exact ⟨c, _, .inr (.inr (.inl hc)), hr⟩
          · simp at hr
        · split at ht
          · rename_i c hc; exact ⟨c, _, .inr (.inr (.inr hc)), ht⟩
          · simp at ht
  clear ht
  obtain ⟨c, wn, hc, ht⟩ := hcx
  unfold tOfMc at ht
  split at ht
  rotate_left
  · simp at ht
  rename_i d hd
  split at ht
  rotate_left
  · simp at ht
  rename_i p2 v n' rl hcc
  cases hcond : (Nat.ble (d.h.next + n') 1000000 && Nat.ble d.bk.length n' && bkOk d.bk && okSt.go2 n' rl && once rl && Nat.ble n' 1000000) with
  | false => rw [hcond] at ht; simp at ht
  | true =>
  rw [hcond] at ht
  simp only [cond_true] at ht
  simp only [Bool.and_eq_true] at hcond
  obtain ⟨⟨⟨⟨⟨t1, t2⟩, t3⟩, t4⟩, t5⟩, t6⟩ := hcond
  have t1 := Nat.le_of_ble_eq_true t1
  have t2 := Nat.le_of_ble_eq_true t2
  have t6 := Nat.le_of_ble_eq_true t6
  have t4' := go2_spec _ _ t4
  split at ht
  rotate_left
  · simp at ht
  rename_i v2 p3 rows' hb1 hb2
  have hmk : mkOk v v2 = true := by
    cases hn : mkOk v v2 with
    | true => rfl
    | false => rw [hn] at ht; simp at ht
  rw [hmk] at ht
  simp only [cond_true, Option.some.injEq, Prod.mk.injEq] at ht
  obtain ⟨rfl, rfl, rfl⟩ := ht
  obtain ⟨hp1, hp2, hp3, hp4⟩ := hp
  have hi0 : MI B μ h [] w := ⟨hw, fun i b h => by simp at h, fun i j r ts ts' h => by simp at h, fun i q z o n h => by simp at h⟩
  obtain ⟨μa, a1, a2, a3⟩ := hc.elim (fun hc => mArgs_ok _ _ _ _ _ _ hc hp1 hi0 _ hargs) (fun hc => hc.elim (fun hc => mArgsK_ok _ _ _ _ _ _ hc hp1 hi0 _ hargs) (fun hc => hc.elim (fun hc => mArgsW_ok _ _ _ _ _ _ hc hp1 hi0 _ hargs) (fun hc => mArgsF_ok _ _ _ _ _ _ hc hp1 hi0 _ hargs)))
  obtain ⟨μ1, b1, b2, b3, b4⟩ := mRowsIn_ok _ _ _ _ _ _ hd hp2 (Nat.zero_le _) a1
  have b3' : d.rows.length = d.bk.length := by omega
  have b4' : ∀ (k : Nat) row, d.rows[k]? = some row → ∃ b, d.bk[k]? = some b ∧ RowRel d.h d.bk b row := fun k row hk => by have := b4 k row hk; rwa [Nat.zero_add] at this
  have hstep := a2.trans b2
  have hw1 := b1.wr
  have htop : d.rows.length ≤ Tr.top := by unfold Tr.top; omega
  have hwc := b1.wrIn t3 b3' htop b4'
  have hbt : d.bk.length ≤ Tr.top := by omega
  have hvs : VRs (muIn μ1 d.bk) c.vs args'.toList := a3 μ1 d.bk _ b2.le b2.pre (muIn_rel _ hbt)
  refine (hC _ _ _ _ _ _ _ hcc hp4 _ _ _ _ (fun _ hz => hz) (by rw [b3']; exact muIn_only μ1 d.bk) hwc hvs hok).mono ?_
  rintro e w' ⟨μ', q1, q2, q3, q4⟩
  have inH : ∀ b, Owns (muIn μ1 d.bk) (mkR (nums 0 d.rows)).find b → Handed μ1 d.h d.bk b := fun b hb => b1.ownsIn htop b4' hb
  have same : ∀ b, b < w.heap.size → ¬ Handed μ1 d.h d.bk b → w'.heap[b]? = w.heap[b]? := fun b hb hn => q3.block b hb fun ho => hn (inH b ho)
  have hspec := eRows_spec t3 t1 _ _ _ _ hb2 hp3
  have hdrop := eDrop_spec d.bk d.h.rows (bkOk_go t3)
  let μ2 : Mu := fun r => if d.h.next ≤ r ∧ r < d.h.next + (n' - d.bk.length) then μ' (d.bk.length + (r - d.h.next)) else match gMu μ' r with | some p => some p | none => μ1 r
  have m_in : ∀ i, d.bk.length ≤ i → i < n' → μ2 (d.h.next + (i - d.bk.length)) = μ' i := by
    intro j hj hj2; show (if _ then _ else _) = _; rw [if_pos ⟨by omega, by omega⟩, show d.bk.length + (d.h.next + (j - d.bk.length) - d.h.next) = j by omega]
  have m_lo : ∀ r, (r < d.h.next ∨ d.h.next + (n' - d.bk.length) ≤ r) → r < Tr.top → μ2 r = μ1 r := by
    intro r hr hr2; show (if _ then _ else _) = _; rw [if_neg (by omega), gMu_out μ' (lt_noG hr2)]
  have m_g : ∀ z i, μ2 (gAt z i) = μ' (gAt z i) := by
    intro z i
    show (if _ then _ else _) = _
    rw [if_neg (by have := gAt_ge z i; unfold Tr.top at this; omega), gMu_at]
    cases hg : μ' (gAt z i) with
    | some p => rfl
    | none =>
      simp only
      cases hg2 : μ1 (gAt z i) with
      | none => rfl
      | some p => have := q1 _ _ ((muIn_g μ1 hbt z i).trans hg2); rw [hg] at this; simp at this
  have hGm : GLe μ' μ2 := fun z i _ h => (m_g z i).trans h
  have dom : ∀ r q, μ1 r = some q → r < d.h.next ∨ d.h.next + (n' - d.bk.length) ≤ r := by
    intro r q hq
    rcases Nat.lt_or_ge r d.h.next with h1 | h1
    · exact .inl h1
    · rcases Nat.lt_or_ge r Tr.top with h2 | h2
      · rw [hw1.fresh r h1 h2] at hq; simp at hq
      · right; unfold Tr.top at h2; omega
  have hle : Le μ1 μ2 := by
    intro r q hq
    by_cases hg : ∃ z i, r = gAt z i
    · obtain ⟨z, i, rfl⟩ := hg
      rw [m_g]; exact q1 _ _ ((muIn_g μ1 hbt z i).trans hq)
    · have := dom r q hq
      show (if _ then _ else _) = _
      rw [if_neg (by omega), gMu_out μ' (fun z i e => hg ⟨z, i, e⟩)]; exact hq
  have inMu : ∀ (i : Nat) b, d.bk[i]? = some b → ∃ x o s, μ1 b.at.1 = some (x, o, s) ∧ μ' i = some (x, o + b.at.2, s) := by
    intro i b hb
    obtain ⟨⟨x, o, s⟩, hq⟩ := b1.mu hb
    refine ⟨x, o, s, hq, q1 _ _ ?_⟩
    rw [muIn_at μ1 d.bk i b hb]; unfold bkMu; rw [hq]
  have hR : ∀ i r dd, eRow d.bk d.h.next n' i = some (r, dd) → ∀ b o s, μ' i = some (b, o, s) → ∃ o0, o = o0 + dd ∧ μ2 r = some (b, o0, s) := by
    intro i r dd hb b o s hm
    unfold eRow at hb
    split at hb
    · simp at hb
    · rename_i bb _ hbb
      obtain ⟨x, o1, s1, g1, g2⟩ := inMu i bb hbb
      simp only [Option.some.injEq] at hb
      rw [hb] at g1 g2
      rw [hm] at g2
      simp only [Option.some.injEq, Prod.mk.injEq] at g2
      obtain ⟨rfl, rfl, rfl⟩ := g2
      exact ⟨o1, rfl, hle _ _ g1⟩
    · rename_i hbb
      have hil : d.bk.length ≤ i := List.getElem?_eq_none_iff.1 hbb
      cases hi3 : Nat.blt i n' with
      | false => rw [hi3] at hb; simp at hb
      | true =>
        rw [hi3] at hb
        simp only [cond_true, Option.some.injEq, Prod.mk.injEq] at hb
        obtain ⟨rfl, rfl⟩ := hb
        have : i < n' := Nat.le_of_ble_eq_true hi3
        exact ⟨o, rfl, by rw [m_in i hil this]; exact hm⟩
  have dest : ∀ i r, eDest d.bk d.h.next n' i = some r → ∃ dd, dd = 0 ∧ eRow d.bk d.h.next n' i = some (r, dd) ∧ (μ' i = none ∨ μ2 r = μ' i) := by
    intro i r hb
    unfold eDest at hb
    unfold eRow
    split at hb
    · rename_i q ts hbb
      simp only [Option.some.injEq] at hb; subst hb
      rw [hbb]
      refine ⟨0, rfl, rfl, .inr ?_⟩
      obtain ⟨x, o1, s1, g1, g2⟩ := inMu i _ hbb
      simp only [Bk.at, Nat.add_zero] at g1 g2
      rw [g2]; exact hle _ _ g1
    · simp at hb
    · simp at hb
    · rename_i hbb
      rw [hbb]
      cases hi3 : Nat.blt i n' with
      | false => rw [hi3] at hb; simp at hb
      | true =>
        rw [hi3] at hb
        simp only [cond_true, Option.some.injEq] at hb
        subst hb
        refine ⟨0, rfl, rfl, .inr ?_⟩
        exact m_in i (List.getElem?_eq_none_iff.1 hbb) (Nat.le_of_ble_eq_true hi3)
  have inj : ∀ i j r, eDest d.bk d.h.next n' i = some r → eDest d.bk d.h.next n' j = some r → i = j := by
    intro i j r h1 h2
    unfold eDest at h1 h2
    have ownlt : ∀ (k q : Nat) ts, d.bk[k]? = some (.own q ts) → q < d.h.next := by
      intro k q ts hk
      obtain ⟨x, o1, s1, g1, _⟩ := inMu k _ hk
      have h3 := (List.all_eq_true.1 t3) _ (List.mem_of_getElem? hk)
      have h3 : q < 1000000 := Nat.le_of_ble_eq_true h3
      rcases Nat.lt_or_ge q d.h.next with h4 | h4
      · exact h4
      · have := hw1.fresh q h4 (by unfold Tr.top; omega)
        simp only [Bk.at] at g1
        rw [this] at g1; simp at g1
    split at h1 <;> split at h2 <;> first | (simp at h1; done) | (simp at h2; done) | skip
    · rename_i q ts hq _ q2 ts2 hq2
      simp only [Option.some.injEq] at h1 h2
      subst h1; subst h2
      exact b1.inj _ _ _ _ _ hq hq2
    · rename_i q ts hq _ hj
      simp only [Option.some.injEq] at h1; subst h1
      have := ownlt _ _ _ hq
      cases hb : Nat.blt j n' with
      | false => rw [hb] at h2; simp at h2
      | true => rw [hb] at h2; simp only [cond_true, Option.some.injEq] at h2; omega
    · rename_i hj _ q ts hq
      simp only [Option.some.injEq] at h2; subst h2
      have := ownlt _ _ _ hq
      cases hb : Nat.blt i n' with
      | false => rw [hb] at h1; simp at h1
      | true => rw [hb] at h1; simp only [cond_true, Option.some.injEq] at h1; omega
    · rename_i hj _ hj2
      have e1 : d.bk.length ≤ i := List.getElem?_eq_none_iff.1 hj
      have e2 : d.bk.length ≤ j := List.getElem?_eq_none_iff.1 hj2
      cases hb : Nat.blt i n' with
      | false => rw [hb] at h1; simp at h1
      | true =>
        cases hb2 : Nat.blt j n' with
        | false => rw [hb2] at h2; simp at h2
        | true =>
          rw [hb] at h1; rw [hb2] at h2
          simp only [cond_true, Option.some.injEq] at h1 h2
          omega
  have find' : ∀ i row0, (i, row0) ∈ rl → (mkR rl).find i = some row0 := once_find rl t5 (fun p hp => by have := t4' p hp; unfold Tr.top; omega)
  have muR : ∀ i row0 r b o s, (i, row0) ∈ rl → eDest d.bk d.h.next n' i = some r → μ' i = some (b, o, s) → μ2 r = some (b, o, s) := by
    intro i row0 r b o s _ hd hm
    obtain ⟨_, _, _, h3⟩ := dest i r hd
    rcases h3 with h3 | h3
    · rw [hm] at h3; simp at h3
    · rw [h3]; exact hm
  have cellsRel : ∀ row row0 : Row, Came d.bk d.h.next n' row row0 → row.cells.length = row0.cells.length ∧ row.void = row0.void ∧ ∀ ws, VRs μ' row0.cells ws → VRs μ2 row.cells ws := by
    rintro ⟨c1, r1, o1⟩ ⟨c2, r2, o2⟩ ⟨g1, g2, sy, g3, g4, hcm, g5⟩
    simp only at g1 g2 g3 g4 g5
    subst g3; subst g4
    have hl : c1.length = c2.length := by
      rcases g5 with ⟨h1, _⟩ | h1
      · rw [h1]
      · exact (bMany_spec _ _ h1).1.symm
    refine ⟨hl, ?_, fun ws hv => ?_⟩
    · exact void_len hl
    · rcases g5 with ⟨h1, h2⟩ | h1
      · simp only; rw [h1]; exact plain_vrs hGm h2 hv
      · exact bMany_vrs (fun v v' w => eV_vr hGm hR 12 v v' w) h1 hv
  have which : ∀ r row, rows'.find r = some row → (∃ i row0, (i, row0) ∈ rl ∧ eDest d.bk d.h.next n' i = some r ∧ Came d.bk d.h.next n' row row0) ∨ (d.h.rows.find r = some row ∧ ∀ (i : Nat) ts, d.bk[i]? ≠ some (.own r ts)) := by
    intro r row hr
    rcases hspec r row hr with h1 | ⟨_, h1⟩
    · exact .inl h1
    · exact .inr (hdrop r row h1)
  have ownB : ∀ b, (baseIn μ1 d.h d.bk w).own b → B.own b := by
    rintro b (hb | ⟨i, r, ts, row, o, s, f1, f2, f3, f4, f5⟩)
    · exact hw1.base b hb
    · obtain ⟨x, _, _, _, m1, _, m2, _⟩ := (hw1.rows r row f2 f3).mu
      rw [f5] at m1
      simp only [Option.some.injEq, Prod.mk.injEq] at m1
      rw [m1.1]; exact m2 f4
  have cameOwns : ∀ i row0 b o s, (i, row0) ∈ rl → row0.void = false → row0.ro = false → μ' i = some (b, o, s) → Handed μ1 d.h d.bk b ∨ w.heap.size ≤ b := by
    intro i row0 b o s hi hv hro hm
    rcases q3.owns b ⟨i, row0, o, s, find' i row0 hi, hv, hro, hm⟩ with h1 | h1
    · exact .inl (inH b h1)
    · exact .inr h1
  have kept : ∀ r row, d.h.rows.find r = some row → μ2 r = μ1 r := fun r row hr => by
    obtain ⟨q, hq⟩ := wr_mu hw1 hr
    rw [hq]; exact hle _ _ hq
  have wrBack : WR B μ2 rows'.find (d.h.next + (n' - d.bk.length)) w' := by
    refine ⟨fun b hb => hw1.base b (Nat.le_trans q3.size hb), fun z hz => ?_, fun r hr hr2 => ?_, fun r row hr hv => ?_, fun r row hr hv => ?_, fun r q x y b o s o' s' hx hy hxv hyv hxr hyr hm1 hm2 => ?_, fun z i b o s hm => ?_, by obtain ⟨K, hK⟩ := q2.gfr; exact ⟨K, fun z i hi => (m_g z i).trans (hK z i hi)⟩, ⟨q2.tab.1, hw1.tab.2⟩⟩
    · obtain ⟨g1, g2⟩ := hw1.hole z hz
      exact ⟨by rw [m_lo z (.inl g2) (by unfold Tr.top; omega)]; exact g1, by omega⟩
    · rw [m_lo r (.inr hr) hr2]; exact hw1.fresh r (by omega) hr2
    · rcases which r row hr with ⟨i, row0, hi, hde, hcame⟩ | ⟨h0, hno⟩
      · obtain ⟨k1, k2, k3⟩ := cellsRel row row0 hcame
        obtain ⟨g1, g2, sy, g3, g4, hcm, _⟩ := hcame
        have hri := q2.rows _ _ (find' i row0 hi) (by rw [← k2]; exact hv)
        obtain ⟨cells, ro, ob⟩ := row
        obtain ⟨cells0, ro0, ob0⟩ := row0
        simp only at g1 g2 g3 g4 k1 k3
        subst g1; subst g2; subst g3; subst g4
        cases ob0 with
        | iter => simp [isCm] at hcm
        | map sm =>
          obtain ⟨b, es, t, f1, f2, f3, f4, f5⟩ := hri
          exact ⟨b, es, t, muR _ _ _ _ _ _ hi hde f1, f2, k3 _ f3, rfl, ownB b f5⟩
        | cells sm =>
        obtain ⟨b, o, s, cc, e1, lo, hi', f1, f2, f3, f4, f5, f6, f7⟩ := hri
        simp only at f4 f5
        refine ⟨b, o, s, cc, e1, lo, hi', muR _ _ _ _ _ _ hi hde f1, f2, f3, by simp only; rw [k1]; exact f4, ?_, fun _ => ⟨ownB b (f6 rfl).1, (f6 rfl).2⟩, fun h => by simp at h⟩
        simp only
        rw [k1]; exact k3 _ f5
      · exact (hw1.rows r row h0 hv).kept hle fun b o s hm => same b ((hw1.rows r row h0 hv).lt hm) (b1.notHanded h0 hv hm hno)
    · rcases which r row hr with ⟨i, row0, hi, hde, hcame⟩ | ⟨h0, hno⟩
      · obtain ⟨k1, k2, k3⟩ := cellsRel row row0 hcame
        obtain ⟨b, o, s, f1, f2⟩ := q2.vrow _ _ (find' i row0 hi) (by rw [← k2]; exact hv)
        exact ⟨b, o, s, muR _ _ _ _ _ _ hi hde f1, fun _ => f2 hcame.2.1⟩
      · obtain ⟨b, o, s, g1, g2⟩ := hw1.vrow r row h0 hv
        exact ⟨b, o, s, hle _ _ g1, g2⟩
    · have mu0 : ∀ (i : Nat) (row0 row : Row) (r : Nat) (b o s : Nat), (i, row0) ∈ rl → eDest d.bk d.h.next n' i = some r → Came d.bk d.h.next n' row row0 → row.void = false → μ2 r = some (b, o, s) → row0.void = false ∧ μ' i = some (b, o, s) := by
        intro i row0 row r b o s hi hde hcame hv hm
        obtain ⟨k1, k2, k3⟩ := cellsRel row row0 hcame
        have hv0 : row0.void = false := by rw [← k2]; exact hv
        obtain ⟨b0, o0, s0, _, f1, _⟩ := (q2.rows _ _ (find' i row0 hi) hv0).mu
        have := muR _ _ _ _ _ _ hi hde f1
        rw [hm] at this
        simp only [Option.some.injEq, Prod.mk.injEq] at this
        obtain ⟨rfl, rfl, rfl⟩ := this
        exact ⟨hv0, f1⟩
      rcases which r x hx with ⟨i1, x0, hi1, hd1, hc1⟩ | ⟨h01, hno1⟩ <;> rcases which q y hy with ⟨i2, y0, hi2, hd2, hc2⟩ | ⟨h02, hno2⟩
      · obtain ⟨v1, g1⟩ := mu0 _ _ _ _ _ _ _ hi1 hd1 hc1 hxv hm1
        obtain ⟨v2, g2⟩ := mu0 _ _ _ _ _ _ _ hi2 hd2 hc2 hyv hm2
        have := q2.apart _ _ _ _ b o s o' s' (find' i1 x0 hi1) (find' i2 y0 hi2) v1 v2 hc1.2.1 hc2.2.1 g1 g2
        subst this
        rw [hd1] at hd2
        simpa using hd2
      · obtain ⟨v1, g1⟩ := mu0 _ _ _ _ _ _ _ hi1 hd1 hc1 hxv hm1
        rw [kept _ _ h02] at hm2
        rcases cameOwns _ _ _ _ _ hi1 v1 hc1.2.1 g1 with h3 | h3
        · exact absurd h3 (b1.notHanded h02 hyv hm2 hno2)
        · have := (hw1.rows q y h02 hyv).lt hm2; omega
      · obtain ⟨v2, g2⟩ := mu0 _ _ _ _ _ _ _ hi2 hd2 hc2 hyv hm2
        rw [kept _ _ h01] at hm1
        rcases cameOwns _ _ _ _ _ hi2 v2 hc2.2.1 g2 with h3 | h3
        · exact absurd h3 (b1.notHanded h01 hxv hm1 hno1)
        · have := (hw1.rows r x h01 hxv).lt hm1; omega
      · rw [kept _ _ h01] at hm1; rw [kept _ _ h02] at hm2
        exact hw1.apart r q x y b o s o' s' h01 h02 hxv hyv hxr hyr hm1 hm2
    · rw [m_g] at hm
      refine ⟨gIn_g hGm (q2.gho z i b o s hm).1, ?_⟩
      rintro ⟨r, row, o1, s1, hr, hv, hro, hm1⟩
      rcases which r row hr with ⟨i1, row0, hi, hde, hcame⟩ | ⟨h0, hno⟩
      · obtain ⟨k1, k2, k3⟩ := cellsRel row row0 hcame
        have hv0 : row0.void = false := by rw [← k2]; exact hv
        obtain ⟨b0, o0, s0, _, f1, _⟩ := (q2.rows _ _ (find' i1 row0 hi) hv0).mu
        have := muR _ _ _ _ _ _ hi hde f1
        rw [hm1] at this
        simp only [Option.some.injEq, Prod.mk.injEq] at this
        obtain ⟨rfl, rfl, rfl⟩ := this
        exact (q2.gho z i _ o s hm).2 ⟨i1, row0, _, _, find' i1 row0 hi, hv0, hcame.2.1, f1⟩
      · rw [kept _ _ h0] at hm1
        have ho : Owns μ1 d.h.rows.find b := ⟨r, row, _, _, h0, hv, hro, hm1⟩
        rcases q3.gnew z i b o s hm with h | h | h
        · exact (hw1.gho z i b o s ((muIn_g μ1 hbt z i).symm.trans h)).2 ho
        · exact absurd (inH b h) (b1.notHanded h0 hv hm1 hno)
        · have := (hw1.rows r row h0 hv).lt hm1; omega
  have keepBack : Keep μ1 d.h.rows.find w μ2 rows'.find w' := by
    refine ⟨q3.os, q3.tape, q3.output, q3.size, fun b hb hno => same b hb fun hh => hno hh.owns, fun b hb => ?_, fun z i b o s hm => by
      rw [m_g] at hm
      rcases q3.gnew z i b o s hm with h | h | h
      · exact .inl ((muIn_g μ1 hbt z i).symm.trans h)
      · exact .inr (.inl (inH b h).owns)
      · exact .inr (.inr h)⟩
    obtain ⟨r, row, o, s, hr, hv, hro, hm⟩ := hb
    rcases which r row hr with ⟨i, row0, hi, hde, hcame⟩ | ⟨h0, hno⟩
    · obtain ⟨k1, k2, k3⟩ := cellsRel row row0 hcame
      have hv0 : row0.void = false := by rw [← k2]; exact hv
      obtain ⟨b0, o0, s0, _, f1, _⟩ := (q2.rows _ _ (find' i row0 hi) hv0).mu
      have := muR _ _ _ _ _ _ hi hde f1
      rw [hm] at this
      simp only [Option.some.injEq, Prod.mk.injEq] at this
      obtain ⟨rfl, rfl, rfl⟩ := this
      rcases cameOwns _ _ _ _ _ hi hv0 hcame.2.1 f1 with h3 | h3
      · exact .inl h3.owns
      · exact .inr h3
    · rw [kept _ _ h0] at hm
      exact .inl ⟨r, row, o, s, h0, hv, hro, hm⟩
  exact ⟨μ2, hstep.le.trans hle, wrBack, hstep.kp.trans keepBack, eV_end hGm hR hb1 hmk q4⟩
def envM (P : Program) (C : TabM) (known : FuncId → Bool) : Env := { P := P, T := tOfM P C known, L := fun _ _ => none }
theorem lok_envM (P : Program) (C : TabM) (known : FuncId → Bool) : LOk (envM P C known) := lok_none fun _ _ => rfl
theorem calls_envM {P : Program} {C : TabM} {known : FuncId → Bool} (hC : ∀ f a rows p v n' rl, C f a rows = some (p, v, n', rl) → p → ConM P f a rows v n' rl) : CallsOk P (oOf (envM P C known)) :=
  calls_conM (E := envM P C known) (C := C) (known := known) rfl hC
theorem Con.m {P : Program} {f : FuncId} {args : List Value} {rows : List Row} {v : Value} {rows' : List Row} (hv : noMark v = true) (h : Con P f args rows v rows') : ConM P f args rows v rows'.length (nums 0 rows') := by
  unfold ConM; rw [noMark_end hv]; exact h
end
end Go.Sy
namespace Go.Sy
noncomputable section
open Go.Ev Go.RowKit
abbrev EntM := FuncId × (List Value → List Row → Option (Prop × Value × Nat × List (Nat × Row)))
def entC (f : FuncId) (g : List Value → List Row → Option (Prop × Value × List Row)) : EntM :=
  (f, fun a rows => match g a rows with
    | some (p, v, news) => bif Nat.ble (rows.length + news.length) 1000000 && noMark v then some (p, v, rows.length + news.length, nums rows.length news) else none
    | none => none)
def tabM : List EntM → TabM
  | [], _, _, _ => none
  | x :: l, f, a, rows => bif Nat.beq x.1 f then x.2 a rows else tabM l f a rows
def knownM : List EntM → FuncId → Bool
  | [], _ => false
  | x :: l, f => Nat.beq x.1 f || knownM l f
noncomputable abbrev envT (P : Program) (l : List EntM) : Env := envM P (tabM l) (knownM l)
def EntOk (P : Program) (x : EntM) : Prop := ∀ a rows p v n' rl, x.2 a rows = some (p, v, n', rl) → p → ConM P x.1 a rows v n' rl
theorem tabM_ok {P : Program} : ∀ (l : List EntM), (∀ x ∈ l, EntOk P x) → ∀ f a rows p v n' rl, tabM l f a rows = some (p, v, n', rl) → p → ConM P f a rows v n' rl := by
  intro l
  induction l with
  | nil => intro _ f a rows p v n' rl h; simp [tabM] at h
  | cons x l ih =>
    intro hx f a rows p v n' rl h hp
    simp only [tabM] at h
    cases hb : Nat.beq x.1 f with
    | true =>
      rw [hb] at h
      simp only [cond_true] at h
      have := Nat.eq_of_beq_eq_true hb
      subst this
      exact hx x (by simp) a rows p v n' rl h hp
    | false =>
      rw [hb] at h
      simp only [cond_false] at h
      exact ih (fun y hy => hx y (by simp [hy])) f a rows p v n' rl h hp
theorem calls_envT {P : Program} {l : List EntM} (h : ∀ x ∈ l, EntOk P x) : CallsOk P (oOf (envT P l)) := calls_envM (tabM_ok l h)
theorem lok_envT (P : Program) (l : List EntM) : LOk (envT P l) := lok_envM _ _ _
def envTd (P : Program) (l : List EntM) (cap : FuncId → List TypeId) : Env := { envT P l with T := tOfM P (tabM l) (knownM l) cap, deep := true }
theorem calls_envTd {P : Program} {l : List EntM} {cap : FuncId → List TypeId} (h : ∀ x ∈ l, EntOk P x) : CallsOk P (oOf (envTd P l cap)) := calls_conM (E := envTd P l cap) (C := tabM l) (known := knownM l) (cap := cap) rfl (tabM_ok l h)
theorem lok_envTd (P : Program) (l : List EntM) (cap : FuncId → List TypeId) : LOk (envTd P l cap) := lok_none fun _ _ => rfl
theorem all_nil {P : Program} : ∀ x ∈ ([] : List EntM), EntOk P x := fun x h => by simp at h
theorem all_cons {P : Program} {x : EntM} {l : List EntM} (h : EntOk P x) (k : ∀ y ∈ l, EntOk P y) : ∀ y ∈ x :: l, EntOk P y := fun y hy => by
  rcases List.mem_cons.1 hy with rfl | hy
  · exact h
  · exact k y hy
theorem ConM.fewer {P : Program} {f : FuncId} {args : List Value} {rows : List Row} {v : Value} {n' : Nat} {rl rl' : List (Nat × Row)} (h : ConM P f args rows v n' rl) (hs : ∀ r row, (mkR rl').find r = some row → (mkR rl).find r = some row) : ConM P f args rows v n' rl' := by
  intro B μ w args' h1 h2 hw hargs hok
  refine (h B μ w args' h1 h2 hw hargs hok).mono ?_
  rintro e w' ⟨μ', q1, q2, q3, q4⟩
  refine ⟨μ', q1, q2.sub hs, ⟨q3.os, q3.tape, q3.output, q3.size, q3.block, fun b hb => ?_, q3.gnew⟩, q4⟩
  obtain ⟨r, row, o, s, hr, k⟩ := hb
  exact q3.owns b ⟨r, row, o, s, hs r row hr, k⟩
theorem entC_ok {P : Program} {f : FuncId} {g : List Value → List Row → Option (Prop × Value × List Row)} (h : ∀ a rows p v news, g a rows = some (p, v, news) → p → Con P f a rows v (rows ++ news)) : EntOk P (entC f g) := by
  intro a rows p v n' rl he hp
  unfold entC at he
  simp only at he
  split at he
  · rename_i p2 v2 news hg
    cases hb2 : (Nat.ble (rows.length + news.length) 1000000 && noMark v2) with
    | false => rw [hb2] at he; simp at he
    | true =>
    rw [hb2] at he
    simp only [cond_true, Option.some.injEq, Prod.mk.injEq] at he
    obtain ⟨rfl, rfl, rfl, rfl⟩ := he
    rw [Bool.and_eq_true] at hb2
    obtain ⟨hb, hnv⟩ := hb2
    have hl := Nat.le_of_ble_eq_true hb
    have hc := h a rows _ _ news hg hp
    have hc' : ConM P f a rows v2 (rows.length + news.length) (nums 0 (rows ++ news)) := by
      have := hc.m hnv
      rwa [List.length_append] at this
    refine hc'.fewer fun r row hr => ?_
    rw [nums_find _ _ _ (by unfold Tr.top; omega)] at hr
    split at hr
    · rename_i hle
      rw [nums_find _ _ _ (by simp; unfold Tr.top; omega), if_pos (Nat.zero_le _), Nat.sub_zero, List.getElem?_append_right hle]
      exact hr
    · simp at hr
  · simp at he
end
end Go.Sy
namespace Go.Sy
noncomputable section
open Go.Ev Go.RowKit Go.ChangeShapes Go.WideShapes Go.ChangeAt
abbrev GEnt := Nat × (Nat × Nat × Nat)
open Classical in
def HasG (μ : Mu) (J : List GEnt) : Prop := ∀ z p, (z, p) ∈ J → ∃ j, μ (gAt z j) = some p
theorem HasG.left {μ : Mu} {J K : List GEnt} (h : HasG μ (J ++ K)) : HasG μ J := fun z p hp => h z p (List.mem_append_left _ hp)
theorem HasG.right {μ : Mu} {J K : List GEnt} (h : HasG μ (J ++ K)) : HasG μ K := fun z p hp => h z p (List.mem_append_right _ hp)
def LawRowG (W : World) (J : List GEnt) (cells : List Value) (i : Nat × Nat × Nat) : Prop :=
  cells = [] ∨ ∃ c e fr, W.heap[i.1]? = some (.cells c e fr) ∧ c.size = i.2.2 ∧ i.2.1 + cells.length ≤ i.2.2 ∧ ∀ μ, HasG μ J → VRs μ cells ((c.toList.drop i.2.1).take cells.length)
theorem PlainA.refl {μ : Mu} {l : List Value} (h : PlainA l) : VRs μ l l :=
  ⟨rfl, fun i v v' h1 h2 => by rw [h1] at h2; simp only [Option.some.injEq] at h2; subst h2; exact plain_refl 12 v (h v (List.mem_of_getElem? h1))⟩
theorem LawRow.g {W : World} {cells : List Value} {i : Nat × Nat × Nat} (h : LawRow W cells i) (J : List GEnt) : LawRowG W J cells i := by
  obtain ⟨h1, h2⟩ := h
  rcases h2 with h2 | ⟨c, e, fr, h3, h4, h5, h6⟩
  · exact .inl h2
  · refine .inr ⟨c, e, fr, h3, h4, h5, fun μ _ => ?_⟩
    rw [← h6]; exact h1.refl
theorem LawRowG.mono {W : World} {J K : List GEnt} {cells : List Value} {i : Nat × Nat × Nat} (h : LawRowG W J cells i) (hs : ∀ x ∈ J, x ∈ K) : LawRowG W K cells i := by
  rcases h with h | ⟨c, e, fr, h1, h2, h3, h4⟩
  · exact .inl h
  · exact .inr ⟨c, e, fr, h1, h2, h3, fun μ hg => h4 μ fun z p hp => hg z p (hs _ hp)⟩
theorem Kd.gOk {k : Kd} {v : Value} (h : CellIs k v) : Ev.gOk v = true := by
  cases k <;> cases v <;> first | rfl | exact h.elim
theorem Cells.gAll : ∀ {ks : List Kd} {vs : List Value}, Cells ks vs → gAll vs = true := by
  intro ks
  induction ks with
  | nil => intro vs h; cases vs with | nil => rfl | cons => exact h.elim
  | cons k ks ih =>
    intro vs h
    cases vs with
    | nil => exact h.elim
    | cons v vs =>
      unfold Ev.gAll
      rw [List.all_cons, Bool.and_eq_true]
      exact ⟨Kd.gOk h.1, ih h.2⟩
theorem Elems.gAll {ks : List Kd} {n : Nat} {cells : List Value} (h : Elems ks n cells) : gAll cells = true := by
  obtain ⟨L, _, rfl, h3⟩ := h
  unfold Ev.gAll
  rw [List.all_eq_true]
  intro v hv
  obtain ⟨c, hc, hv⟩ := List.mem_flatten.1 hv
  have := Cells.gAll (h3 c hc)
  unfold Ev.gAll at this
  rw [List.all_eq_true] at this
  exact this v hv
section
variable {H : Type} {enc : TypeId × Value → H} {P : Program} {ok : DataW H → Prop} {Q : Nat → Prop}
end
end
end Go.Sy
namespace Go.Sy
noncomputable section
open Go.Ev Go.RowKit
section
variable {β : Type} (P : Program)
end
section
variable {β : Type} {P : Program} {x : β}
end
structure CEnt where
  f : FuncId
  a : List Value
  r : List Row
  v : Value
  n : Nat
  rl : List (Nat × Row)
end
end Go.Sy
