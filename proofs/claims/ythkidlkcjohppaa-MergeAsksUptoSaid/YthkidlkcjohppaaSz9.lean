/- An evaluator of the model's code, sound for every world, second edition: part 9. -/
import Derived.Test.YthkidlkcjohppaaSz8
import Derived.ChangeSlices
/-
  Conditions, at the world's own level, seventh part: a law's arguments laid open: rows of plain data; from a contract to the law.
-/
namespace Go.Sy
open Go.Ev Go.RowKit

/-! ### Kinds of cells -/
inductive Kd where
  | b | i (k : IntKind) | f (k : FloatKind) | s

def kFold (P : Program) (g : TypeId → Option (List Kd)) : List Field → Nat → Option (List Kd)
  | [], _ => some []
  | f :: r, off =>
    match g f.type with
    | some ks => bif Nat.beq f.offset off && Nat.beq (P.cellsOf f.type) ks.length then (match kFold P g r (off + ks.length) with | some l => some (ks ++ l) | none => none) else none
    | none => none
/-- The kinds of a plain type's cells. -/
def kT (P : Program) : Nat → TypeId → Option (List Kd)
  | 0, _ => none
  | d + 1, t =>
    match P.underlying t with
    | some .bool => some [.b]
    | some (.int k) => some [.i k]
    | some (.float k) => some [.f k]
    | some .string => some [.s]
    | some (.struct fs) => kFold P (kT P d) fs.toList 0
    | _ => none

def CellIs : Kd → Value → Prop
  | .b, .bool _ => True
  | .i k, .int k' n => k' = k ∧ (Lit.int k n).wf = true
  | .f k, .float k' _ => k' = k
  | .s, .string s => s.size ≤ maxLen
  | _, _ => False
def Cells : List Kd → List Value → Prop
  | [], [] => True
  | k :: ks, v :: vs => CellIs k v ∧ Cells ks vs
  | _, _ => False
theorem Cells.len : ∀ {ks : List Kd} {vs : List Value}, Cells ks vs → vs.length = ks.length := by
  intro ks
  induction ks with
  | nil => intro vs h; cases vs with | nil => rfl | cons => exact h.elim
  | cons k ks ih => intro vs h; cases vs with | nil => exact h.elim | cons v vs => simp [ih h.2]
theorem Cells.append : ∀ {ks : List Kd} {vs : List Value} {k2 : List Kd} {v2 : List Value}, Cells ks vs → Cells k2 v2 → Cells (ks ++ k2) (vs ++ v2) := by
  intro ks
  induction ks with
  | nil => intro vs k2 v2 h k; cases vs with | nil => exact k | cons => exact h.elim
  | cons q ks ih => intro vs k2 v2 h k; cases vs with | nil => exact h.elim | cons v vs => exact ⟨h.1, ih h.2 k⟩
theorem CellIs.plain {k : Kd} {v : Value} (h : CellIs k v) : noAddr 12 v = true := by
  cases k <;> cases v <;> first | rfl | exact h.elim
theorem Cells.plain : ∀ {ks : List Kd} {vs : List Value}, Cells ks vs → Plain vs := by
  intro ks
  induction ks with
  | nil => intro vs h; cases vs with | nil => intro v hv; simp at hv | cons => exact h.elim
  | cons q ks ih =>
    intro vs h
    cases vs with
    | nil => exact h.elim
    | cons v vs =>
      intro x hx
      rcases List.mem_cons.1 hx with rfl | hx
      · exact h.1.plain
      · exact ih h.2 x hx

section
variable {H : Type} {enc : TypeId × Value → H} {P : Program} {w : World} {base : Nat} {spare : Nat → Bool} {held : Bool}

theorem fold_cells {g : TypeId → Option (List Kd)} {cs : List Value} {n : Nat} (hg : ∀ t ks cs' x, g t = some ks → P.cellsOf t = ks.length → DataW.trod enc P w base spare held n t cs' = some x → Cells ks cs') :
    ∀ (l : List Field) (off : Nat) (ks : List Kd), kFold P g l off = some ks → (∀ f ∈ l, ∃ x, DataW.trod enc P w base spare held n f.type ((cs.drop f.offset).take (P.cellsOf f.type)) = some x) → Cells ks ((cs.drop off).take ks.length) := by
  intro l
  induction l with
  | nil => intro off ks h _; simp [kFold] at h; subst h; simp [Cells]
  | cons f r ih =>
    intro off ks h hx
    simp only [kFold] at h
    split at h
    · rename_i k1 hk
      cases hb : (Nat.beq f.offset off && Nat.beq (P.cellsOf f.type) k1.length) with
      | false => rw [hb] at h; simp at h
      | true =>
        rw [hb] at h
        simp only [cond_true] at h
        simp only [Bool.and_eq_true] at hb
        have e1 := Nat.eq_of_beq_eq_true hb.1
        have e2 := Nat.eq_of_beq_eq_true hb.2
        split at h
        · rename_i k2 hr
          simp only [Option.some.injEq] at h
          subst h
          obtain ⟨x, hx1⟩ := hx f (by simp)
          have c1 := hg _ _ _ _ hk e2 hx1
          rw [e1, e2] at c1
          have c2 := ih _ _ hr fun f' hf' => hx f' (by simp [hf'])
          rw [List.length_append, List.take_add, List.drop_drop]
          exact c1.append c2
        · simp at h
    · simp at h

theorem flat_cells : ∀ (d : Nat) (t : TypeId) (ks : List Kd) (cs : List Value) (fuel : Nat) (x : DataW H × List MemPlace), kT P d t = some ks → P.cellsOf t = ks.length → DataW.trod enc P w base spare held fuel t cs = some x → Cells ks cs := by
  intro d
  induction d with
  | zero => intro t ks cs fuel x h; simp [kT] at h
  | succ d ih =>
    intro t ks cs fuel x h hc hx
    simp only [kT] at h
    split at h
    · rename_i ht
      simp at h; subst h
      obtain ⟨b, rfl, _⟩ := DataW.trod_bool ht hx
      exact ⟨trivial, trivial⟩
    · rename_i k ht
      simp at h; subst h
      obtain ⟨n, rfl, _, hw⟩ := DataW.trod_int ht hx
      exact ⟨⟨rfl, hw⟩, trivial⟩
    · rename_i k ht
      simp at h; subst h
      cases fuel with
      | zero => simp [DataW.trod] at hx
      | succ n =>
        unfold DataW.trod at hx
        rw [ht] at hx
        split at hx <;> simp_all [Cells, CellIs]
    · rename_i ht
      simp at h; subst h
      obtain ⟨s, rfl, _, hs⟩ := DataW.trod_string ht hx
      exact ⟨hs, trivial⟩
    · rename_i fs ht
      obtain ⟨xs, n, rfl, _, hl, hxl, hf⟩ := DataW.trod_struct ht hx
      have := fold_cells (cs := cs) (n := n) (fun t ks cs' x h1 h2 h3 => ih t ks cs' n x h1 h2 h3) _ _ _ h (fun f hf' => by
        obtain ⟨i, hi⟩ := List.getElem?_of_mem hf'
        have hi' : i < xs.length := by rw [hxl]; simpa using (List.getElem?_eq_some_iff.1 hi).1
        exact ⟨xs[i], by rw [hf i f (by simpa using hi)]; exact List.getElem?_eq_getElem hi'⟩)
      rw [List.drop_zero, List.take_of_length_le (by omega)] at this
      exact this
    · simp at h

/-- So many elements of these kinds. -/
def Elems (ks : List Kd) (n : Nat) (cells : List Value) : Prop := ∃ L : List (List Value), L.length = n ∧ cells = L.flatten ∧ ∀ c ∈ L, Cells ks c
theorem Elems.len {ks : List Kd} {n : Nat} {cells : List Value} (h : Elems ks n cells) : cells.length = n * ks.length := by
  obtain ⟨L, rfl, rfl, hc⟩ := h
  induction L with
  | nil => simp
  | cons c L ih =>
    rw [List.flatten_cons, List.length_append, ih (fun x hx => hc x (by simp [hx])), (hc c (by simp)).len, List.length_cons, Nat.add_mul]; omega
theorem Elems.plain {ks : List Kd} {n : Nat} {cells : List Value} (h : Elems ks n cells) : Plain cells := by
  obtain ⟨L, rfl, rfl, hc⟩ := h
  intro v hv
  obtain ⟨c, hc1, hc2⟩ := List.mem_flatten.1 hv
  exact (hc c hc1).plain v hc2
/-- Elements as data of one's own. -/
theorem Elems.data {α : Type} {ks : List Kd} {n : Nat} {cells : List Value} (h : Elems ks n cells) (en : α → List Value) (Q : α → Prop) (hq : ∀ c, Cells ks c → ∃ a, c = en a ∧ Q a) :
    ∃ l : List α, l.length = n ∧ cells = l.flatMap en ∧ ∀ a ∈ l, Q a := by
  obtain ⟨L, rfl, rfl, hc⟩ := h
  induction L with
  | nil => exact ⟨[], rfl, rfl, fun a ha => by simp at ha⟩
  | cons c L ih =>
    obtain ⟨l, h1, h2, h3⟩ := ih (fun x hx => hc x (by simp [hx]))
    obtain ⟨a, ha, hqa⟩ := hq c (hc c (by simp))
    refine ⟨a :: l, by simp [h1], by rw [List.flatten_cons, List.flatMap_cons, h2, ha], fun b hb => ?_⟩
    rcases List.mem_cons.1 hb with rfl | hb
    · exact hqa
    · exact h3 b hb

/-- A row that an argument's block holds; or none. -/
def LawRow (W : World) (cells : List Value) (I : Nat × Nat × Nat) : Prop :=
  Plain cells ∧ (cells = [] ∨ ∃ c e fr, W.heap[I.1]? = some (.cells c e fr) ∧ c.size = I.2.2 ∧ I.2.1 + cells.length ≤ I.2.2 ∧ cells = (c.toList.drop I.2.1).take cells.length)

theorem cells_at {blk off n : Nat} {c : Array Value} {el : TypeId} {fr : Nat × Nat} {l : List Value} (hb : w.heap[blk]? = some (.cells c el fr)) (h : w.cells? base ⟨blk, off, none⟩ n = some l) (hn : 0 < n) :
    off + n ≤ c.size ∧ l = (c.toList.drop off).take n := by
  unfold World.cells? at h
  split at h
  · have hl := mapM_some_length h
    rw [List.length_range] at hl
    have hg : ∀ j, j < n → c[off + j]? = l[j]? := by
      intro j hj
      have := mapM_some_get h j j (by simp [List.getElem?_range hj])
      rw [← this, add_none, cell_at hb]
    have hsz : off + n ≤ c.size := by
      have := hg (n - 1) (by omega)
      rw [List.getElem?_eq_getElem (by omega)] at this
      have := (Array.getElem?_eq_some_iff.1 this).1
      omega
    refine ⟨hsz, List.ext_getElem? fun j => ?_⟩
    rw [List.getElem?_take]
    split
    · rename_i hj
      rw [List.getElem?_drop, ← hg j hj]; simp
    · rw [List.getElem?_eq_none (by omega)]
  · simp at h

theorem chunks {α : Type} (l : List α) (off m : Nat) : ∀ n, (l.drop off).take (n * m) = ((List.range n).map fun i => (l.drop (off + i * m)).take m).flatten := by
  intro n
  induction n with
  | zero => simp
  | succ n ih =>
    rw [List.range_succ, List.map_append, List.flatten_append, ← ih, Nat.succ_mul, List.take_add, List.drop_drop]
    simp

/-- An argument that is a slice of plain data. -/
theorem slice_row {W : World} {t e : TypeId} {ks : List Kd} {r : Reach} {b0 d0 : Nat} {v : Value} {d : DataW H} {p : List MemPlace}
    (ht : P.underlying t = some (.slice e)) (hk : kT P d0 e = some ks) (hc : P.cellsOf e = ks.length) (hpos : 0 < ks.length) (hval : Value.okWide P W r b0 t v) (hd : DataW.Trod enc P W 0 (fun _ => true) true t v d p) :
    ∃ (n : Nat) (cells : List Value) (i : Nat × Nat × Nat), LawRow W cells i ∧ Elems ks n cells ∧ n ≤ maxLen ∧ ((n = 0) ∨ ∃ elems rest, d = .slice elems rest ∧ elems.length = n) ∧
      ∀ (μ : Mu) (q : Nat), μ q = some i → VR μ (.slice (some ⟨q, 0, none⟩) n ks.length) v := by
  have hsl : v = .slice none 0 0 ∨ ∃ a len cap, v = .slice (some a) len cap ∧ W.has P r b0 a e cap ∧ len ≤ cap := by
    unfold Value.okWide at hval
    rw [ht] at hval
    simp only at hval
    unfold Cell.okWide at hval
    rw [ht] at hval
    simp only at hval
    unfold Cell.ok at hval
    rw [ht] at hval
    cases v <;> try exact hval.elim
    rename_i a len cap
    cases a with
    | none =>
      cases len <;> cases cap <;> first | exact .inl rfl | exact hval.elim
    | some a => exact .inr ⟨a, len, cap, rfl, hval.2.2, hval.1⟩
  rcases hsl with h0 | ⟨a, len, cap, rfl, hhas, hlc⟩
  · subst h0
    refine ⟨0, [], (0, 0, 0), ⟨fun v hv => by simp at hv, .inl rfl⟩, ⟨[], rfl, rfl, fun c hc => by simp at hc⟩, Nat.zero_le _, .inl rfl, fun μ q _ => .slice0 _ _ _ none⟩
  obtain ⟨fuel, hf⟩ := hd
  rcases DataW.trod_slice ht hf with ⟨h1, _⟩ | ⟨a', len', cap', elems, rest, n, _, h1, hx, _, _, hm, hlen, hel, hsp, _⟩
  · simp [Value.cells] at h1
  simp [Value.cells] at h1
  obtain ⟨rfl, rfl, rfl⟩ := h1
  obtain ⟨hrl, hre⟩ := hsp rfl
  obtain ⟨_, hspot, row, cells, hshape, _⟩ := hhas
  obtain ⟨blk, off, spot⟩ := a
  simp only at hspot
  subst hspot
  obtain ⟨c, el, fr, hblk⟩ : ∃ c el fr, W.heap[blk]? = some (.cells c el fr) := by
    unfold World.shape? at hshape
    split at hshape
    · rename_i c el fr hh; exact ⟨c, el, fr, hh⟩
    · simp at hshape
  -- each element
  have each : ∀ i, i < cap → off + i * ks.length + ks.length ≤ c.size ∧ Cells ks ((c.toList.drop (off + i * ks.length)).take ks.length) := by
    intro i hi
    have hb : ∃ y, (W.cells? 0 ((⟨blk, off, none⟩ : Addr).add (i * P.cellsOf e)) (P.cellsOf e)).bind (DataW.trod enc P W 0 (fun _ => true) true n e) = some y := by
      by_cases hi2 : i < len
      · exact ⟨_, by rw [hel i hi2]; exact List.getElem?_eq_getElem (by omega)⟩
      · have := hre (i - len) (by omega)
        rw [show len + (i - len) = i by omega] at this
        exact ⟨_, by rw [this]; exact List.getElem?_eq_getElem (by omega)⟩
    obtain ⟨y, hy⟩ := hb
    rw [Option.bind_eq_some_iff] at hy
    obtain ⟨cs', hcs, hy⟩ := hy
    rw [hc, add_none] at hcs
    obtain ⟨k1, k2⟩ := cells_at hblk hcs hpos
    refine ⟨k1, ?_⟩
    rw [← k2]
    exact flat_cells d0 e ks cs' n y hk hc hy
  have hlt : cap = 0 ∨ off + cap * ks.length ≤ c.size := by
    rcases Nat.eq_zero_or_pos cap with h | h
    · exact .inl h
    · right
      have := (each (cap - 1) (by omega)).1
      have e1 : (cap - 1) * ks.length + ks.length = cap * ks.length := by rw [← Nat.succ_mul]; congr 1; omega
      omega
  have hL : Elems ks len ((c.toList.drop off).take (len * ks.length)) := by
    refine ⟨(List.range len).map fun i => (c.toList.drop (off + i * ks.length)).take ks.length, by simp, ?_, fun x hx => ?_⟩
    · exact chunks _ _ _ _
    · obtain ⟨i, hi, rfl⟩ := List.mem_map.1 hx
      exact (each i (by have := List.mem_range.1 hi; omega)).2
  have hcl := hL.len
  refine ⟨len, _, (blk, if cap = 0 then 0 else off, c.size), ⟨hL.plain, ?_⟩, hL, by omega, ?_, fun μ q hq => ?_⟩
  · by_cases hz : cap = 0
    · left; exact List.eq_nil_of_length_eq_zero (by rw [hcl]; have : len = 0 := by omega
                                                    rw [this]; simp)
    · right
      refine ⟨c, el, fr, hblk, rfl, ?_, ?_⟩
      · simp only [if_neg hz]
        rw [hcl]
        have : len * ks.length ≤ cap * ks.length := Nat.mul_le_mul hlc (Nat.le_refl _)
        rcases hlt with h | h <;> omega
      · simp only [if_neg hz]; rw [hcl]
  · right
    simp only [Prod.mk.injEq] at hx
    exact ⟨_, _, hx.1, by simpa using hlen⟩
  · by_cases hz : cap = 0
    · have e2 : len = 0 := by omega
      rw [hz, e2]; exact .slice0 _ _ _ _
    · rw [if_neg hz] at hq
      have := VR.slice (μ := μ) q 0 len ks.length blk off c.size cap hq hlc (by rcases hlt with h | h <;> omega)
      simpa using this
end

/-- A plain value is related to itself. -/
theorem plain_refl {μ : Mu} : ∀ (n : Nat) (v : Value), noAddr n v = true → VR μ v v := by
  intro n
  induction n with
  | zero => intro v h; simp [noAddr] at h
  | succ n ih =>
    intro v h
    have all : ∀ x : Array Value, x.toList.all (noAddr n) = true → ∀ i (h : i < x.size) (h' : i < x.size), VR μ x[i] x[i] := by
      intro x hx i h1 _
      rw [List.all_eq_true] at hx
      exact ih _ (hx _ (by simp))
    cases v with
    | pointer a => cases a with
      | none => exact .pnil
      | some a => simp [noAddr] at h
    | slice a n c => cases a with
      | none => cases n <;> cases c <;> first | exact .snil | simp [noAddr] at h
      | some a => simp [noAddr] at h
    | iface t v => exact .iface t v v (ih _ (by simpa [noAddr] using h))
    | agg x => exact .agg x x rfl (all x (by simpa only [noAddr] using h))
    | tuple x => exact .tuple x x rfl (all x (by simpa only [noAddr] using h))
    | func fn x y =>
      simp only [noAddr, Bool.and_eq_true] at h
      exact .func fn x y x y rfl rfl (all x h.1) (all y h.2)
    | map r => cases r with
      | none => exact .mnil
      | some r => simp [noAddr] at h
    | chan r => simp [noAddr] at h
    | _ => first | constructor | simp [noAddr] at h

/-- A closed call, as a contract. -/
theorem con_flat {P : Program} {f : FuncId} {args : List Value} {v : Value} (hf : args.all (flat 12) = true) (hv : flat 12 v = true) (h : Flat P f args v) : Con P f args [] v [] := by
  intro B μ w args' h1 h2 hw hargs hok
  rw [flat_args hf hargs]
  refine (h w).mono ?_
  rintro e w' ⟨rfl, hb⟩
  obtain ⟨k1, k2⟩ := wr_below hw hb
  exact ⟨μ, Le.refl _, k1, k2, flat_refl _ _ hv⟩
theorem con_run {P : Program} (hm : P.follows .mixedOrders = true) {n : Nat} {f : FuncId} (hok : okFn P f = true) (h : ret? (Ev.run P n f [] ⟨.leaf, 0⟩) = some (.bool true)) : Con P f [] [] (.bool true) [] :=
  con_flat rfl rfl fun w => run_closed hm hok (args := []) rfl rfl h w

theorem lr_nil {W : World} : ∀ (r : Nat) (cells : List Value) i, ([] : List (List Value))[r]? = some cells → ([] : List (Nat × Nat × Nat))[r]? = some i → LawRow W cells i := fun r cells i h => by simp at h
theorem lr_cons {W : World} {c : List Value} {L : List (List Value)} {i : Nat × Nat × Nat} {I : List (Nat × Nat × Nat)} (h : LawRow W c i) (k : ∀ (r : Nat) cells i, L[r]? = some cells → I[r]? = some i → LawRow W cells i) :
    ∀ (r : Nat) cells i', (c :: L)[r]? = some cells → (i :: I)[r]? = some i' → LawRow W cells i' := by
  intro r cells i' h1 h2
  cases r with
  | zero => simp at h1 h2; subst h1; subst h2; exact h
  | succ r => simp at h1 h2; exact k r cells i' h1 h2

/-! Lists of numbers, out of elements -/
theorem flatMap_one {α : Type} (f : α → Value) (l : List α) : l.flatMap (fun a => [f a]) = l.map f := by
  induction l with
  | nil => rfl
  | cons a l ih => rw [List.flatMap_cons, ih]; rfl
theorem elems_bytes {n : Nat} {cells : List Value} (h : Elems [.i .u8] n cells) : ∃ l : List UInt8, l.length = n ∧ cells = bCells l := by
  obtain ⟨l, h1, h2, _⟩ := h.data (α := UInt8) (fun b => [bVal b]) (fun _ => True) (fun c hc => by
    match c, hc with
    | [.int k z], hc =>
      obtain ⟨⟨rfl, hw⟩, _⟩ := hc
      have hz : 0 ≤ z ∧ z ≤ 255 := by simpa [Lit.wf, IntKind.min, IntKind.max, IntKind.signed, IntKind.bits] using hw
      exact ⟨UInt8.ofNat z.toNat, by rw [← bVal_nat (by omega), Int.toNat_of_nonneg hz.1], trivial⟩)
  exact ⟨l, h1, by rw [h2]; exact flatMap_one _ _⟩
theorem elems_ints {k : IntKind} {n : Nat} {cells : List Value} (h : Elems [.i k] n cells) : ∃ l : List Int, l.length = n ∧ cells = iCells k l ∧ ∀ x ∈ l, (Lit.int k x).wf = true := by
  obtain ⟨l, h1, h2, h3⟩ := h.data (α := Int) (fun b => [.int k b]) (fun x => (Lit.int k x).wf = true) (fun c hc => by
    match c, hc with
    | [.int k' z], hc =>
      obtain ⟨⟨rfl, hw⟩, _⟩ := hc
      exact ⟨z, rfl, hw⟩)
  exact ⟨l, h1, by rw [h2]; exact flatMap_one _ _, h3⟩
theorem u8_of_wf {z : Int} (hw : (Lit.int .u8 z).wf = true) : ∃ b : UInt8, z = b.toNat := by
  have hz : 0 ≤ z ∧ z ≤ 255 := by simpa [Lit.wf, IntKind.min, IntKind.max, IntKind.signed, IntKind.bits] using hw
  exact ⟨UInt8.ofNat z.toNat, by rw [u8_toNat_ofNat (by omega)]; omega⟩

/-! ### From a contract to the law -/
def roRow (c : List Value) : Row := ⟨c, true, .cells true⟩
theorem law_con {P : Program} {f : FuncId} (hok : okFn P f = true) {args : List Value} {args' : Array Value} {L : List (List Value)} {I : List (Nat × Nat × Nat)} {W : World} (hlen : L.length ≤ 100)
    (hcon : Con P f args (L.map roRow) (.bool true) (L.map roRow)) (hI : ∀ (r : Nat) cells i, L[r]? = some cells → I[r]? = some i → LawRow W cells i) (hI2 : I.length = L.length) (hargs : VRs (fun r => I[r]?) args args'.toList) :
    Calls P f args' W fun e W' => e = .returned (.bool true) ∧ Below W.heap.size W W' := by
  have at' : ∀ r row, (mkR (nums 0 (L.map roRow))).find r = some row → ∃ cells i, row = roRow cells ∧ I[r]? = some i ∧ LawRow W cells i := by
    intro r row hr
    rw [nums_find _ _ _ (by simp; unfold Tr.top; omega), if_pos (Nat.zero_le _), Nat.sub_zero, List.getElem?_map, Option.map_eq_some_iff] at hr
    obtain ⟨cells, h1, h2⟩ := hr
    have hlt := (List.getElem?_eq_some_iff.1 h1).1
    exact ⟨cells, I[r], h2.symm, List.getElem?_eq_getElem (by omega), hI r cells _ h1 (List.getElem?_eq_getElem (by omega))⟩
  have hw : WR ⟨fun b => W.heap.size ≤ b, fun _ => False⟩ (fun r => I[r]?) (mkR (nums 0 (L.map roRow))).find (L.map roRow).length W := by
    refine ⟨fun b hb => hb, fun _ hz => hz.elim, fun r hr _ => ?_, fun r row hr hv => ?_, fun r row hr hv => ?_, fun r q x y b o s o' s' hx hy hxv hyv hxr hyr => ?_⟩
    · rw [List.getElem?_eq_none_iff, hI2]; simpa using hr
    · obtain ⟨cells, ⟨b, o, s⟩, rfl, h2, hpl, h3⟩ := at' r row hr
      rcases h3 with h3 | ⟨c, e, ⟨lo, hi⟩, h4, h5, h6, h7⟩
      · subst h3; simp [roRow, Row.void] at hv
      · refine ⟨b, o, s, c, e, lo, hi, h2, h4, h5, h6, ?_, fun h => by simp [roRow] at h, fun _ => ?_⟩
        · simp only [roRow]; simp only at h7
          refine ⟨by rw [← h7], fun i v v' g1 g2 => ?_⟩
          rw [← h7] at g2
          rw [g1] at g2
          simp only [Option.some.injEq] at g2
          subst g2
          have := hpl v (List.mem_of_getElem? g1)
          exact plain_refl 12 v this
        · show ¬ (W.heap.size ≤ b)
          have := (Array.getElem?_eq_some_iff.1 h4).1
          simp only at this; omega
    · obtain ⟨cells, ⟨b, o, s⟩, rfl, h2, _⟩ := at' r row hr
      exact ⟨b, o, s, h2, fun h => by simp [roRow] at h⟩
    · obtain ⟨cells, i, rfl, _⟩ := at' r x hx
      simp [roRow] at hxr
  refine (hcon _ _ W args' (fun _ hz => hz) (fun r hr => by rw [List.getElem?_eq_none_iff, hI2]; simpa using hr) hw hargs hok).mono ?_
  rintro e w' ⟨μ', q1, q2, q3, q4⟩
  cases e with
  | returned v' =>
    have : v' = .bool true := by cases q4; rfl
    subst this
    refine ⟨rfl, ⟨q3.os, q3.tape, q3.output, q3.size, fun k hk => q3.block k hk ?_⟩⟩
    rintro ⟨q, row, o', s, hq, _, hro, _⟩
    obtain ⟨cells, i, rfl, _⟩ := at' q row hq
    simp [roRow] at hro
  | panicked c => exact q4.elim
  | outgrown => exact q4.elim
end Go.Sy

/-
  Conditions, at the world's own level, eighth part: a law's arguments laid open, structs that hold slices among them, with bounds on what they hold.
-/
namespace Go.Sy
open Go.Ev Go.RowKit

/-- A bound on data, and on the lengths of what it holds. -/
structure OkB {H : Type} (ok : DataW H → Prop) (Q : Nat → Prop) : Prop where
  zero : Q 0
  str : ∀ b, ok (.lit (.string b)) → Q b.length
  agg : ∀ parts x, ok (.agg parts) → x ∈ parts → ok x
  elem : ∀ el sp x, ok (.slice el sp) → x ∈ el → ok x
  len : ∀ el sp, ok (.slice el sp) → Q el.length

/-- A cell of a kind, its text's length bounded. -/
def CellQ (Q : Nat → Prop) (k : Kd) (v : Value) : Prop := CellIs k v ∧ ∀ s, v = .string s → Q s.size
def CellsQ (Q : Nat → Prop) : List Kd → List Value → Prop
  | [], [] => True
  | k :: ks, v :: vs => CellQ Q k v ∧ CellsQ Q ks vs
  | _, _ => False
theorem CellsQ.cells {Q : Nat → Prop} : ∀ {ks : List Kd} {vs : List Value}, CellsQ Q ks vs → Cells ks vs := by
  intro ks
  induction ks with
  | nil => intro vs h; cases vs with | nil => trivial | cons => exact h.elim
  | cons k ks ih => intro vs h; cases vs with | nil => exact h.elim | cons v vs => exact ⟨h.1.1, ih h.2⟩
theorem CellsQ.append {Q : Nat → Prop} : ∀ {ks : List Kd} {vs : List Value} {k2 : List Kd} {v2 : List Value}, CellsQ Q ks vs → CellsQ Q k2 v2 → CellsQ Q (ks ++ k2) (vs ++ v2) := by
  intro ks
  induction ks with
  | nil => intro vs k2 v2 h k; cases vs with | nil => exact k | cons => exact h.elim
  | cons q ks ih => intro vs k2 v2 h k; cases vs with | nil => exact h.elim | cons v vs => exact ⟨h.1, ih h.2 k⟩

section
variable {H : Type} {enc : TypeId × Value → H} {P : Program} {w : World} {base : Nat} {spare : Nat → Bool} {held : Bool} {ok : DataW H → Prop} {Q : Nat → Prop}

theorem fold_q {g : TypeId → Option (List Kd)} {cs : List Value} {n : Nat} (hg : ∀ t ks cs' x, g t = some ks → P.cellsOf t = ks.length → DataW.trod enc P w base spare held n t cs' = some x → ok x.1 → CellsQ Q ks cs') :
    ∀ (l : List Field) (off : Nat) (ks : List Kd), kFold P g l off = some ks → (∀ f ∈ l, ∃ x, DataW.trod enc P w base spare held n f.type ((cs.drop f.offset).take (P.cellsOf f.type)) = some x ∧ ok x.1) → CellsQ Q ks ((cs.drop off).take ks.length) := by
  intro l
  induction l with
  | nil => intro off ks h _; simp [kFold] at h; subst h; simp [CellsQ]
  | cons f r ih =>
    intro off ks h hx
    simp only [kFold] at h
    split at h
    · rename_i k1 hk
      cases hb : (Nat.beq f.offset off && Nat.beq (P.cellsOf f.type) k1.length) with
      | false => rw [hb] at h; simp at h
      | true =>
        rw [hb] at h
        simp only [cond_true] at h
        simp only [Bool.and_eq_true] at hb
        have e1 := Nat.eq_of_beq_eq_true hb.1
        have e2 := Nat.eq_of_beq_eq_true hb.2
        split at h
        · rename_i k2 hr
          simp only [Option.some.injEq] at h
          subst h
          obtain ⟨x, hx1, hx2⟩ := hx f (by simp)
          have c1 := hg _ _ _ _ hk e2 hx1 hx2
          rw [e1, e2] at c1
          have c2 := ih _ _ hr fun f' hf' => hx f' (by simp [hf'])
          rw [List.length_append, List.take_add, List.drop_drop]
          exact c1.append c2
        · simp at h
    · simp at h

theorem flat_q (hB : OkB ok Q) : ∀ (d : Nat) (t : TypeId) (ks : List Kd) (cs : List Value) (fuel : Nat) (x : DataW H × List MemPlace), kT P d t = some ks → P.cellsOf t = ks.length → DataW.trod enc P w base spare held fuel t cs = some x → ok x.1 → CellsQ Q ks cs := by
  intro d
  induction d with
  | zero => intro t ks cs fuel x h; simp [kT] at h
  | succ d ih =>
    intro t ks cs fuel x h hc hx hok
    simp only [kT] at h
    split at h
    · rename_i ht
      simp at h; subst h
      obtain ⟨b, rfl, _⟩ := DataW.trod_bool ht hx
      exact ⟨⟨trivial, fun s h => by simp at h⟩, trivial⟩
    · rename_i k ht
      simp at h; subst h
      obtain ⟨n, rfl, _, hw⟩ := DataW.trod_int ht hx
      exact ⟨⟨⟨rfl, hw⟩, fun s h => by simp at h⟩, trivial⟩
    · rename_i k ht
      simp at h; subst h
      cases fuel with
      | zero => simp [DataW.trod] at hx
      | succ n =>
        unfold DataW.trod at hx
        rw [ht] at hx
        split at hx <;> simp_all [CellsQ, CellQ, CellIs]
    · rename_i ht
      simp at h; subst h
      obtain ⟨s, rfl, hx1, hs⟩ := DataW.trod_string ht hx
      refine ⟨⟨hs, fun s' h => ?_⟩, trivial⟩
      simp only [Value.string.injEq] at h
      subst h
      rw [hx1] at hok
      have := hB.str _ hok
      rwa [Array.length_toList] at this
    · rename_i fs ht
      obtain ⟨xs, n, rfl, hxx, hl, hxl, hf⟩ := DataW.trod_struct ht hx
      have hok' : ∀ y ∈ xs, ok y.1 := fun y hy => by
        rw [hxx] at hok
        exact hB.agg _ _ hok (List.mem_map.2 ⟨y, hy, rfl⟩)
      have := fold_q (cs := cs) (n := n) (ok := ok) (Q := Q) (fun t ks cs' x h1 h2 h3 h4 => ih t ks cs' n x h1 h2 h3 h4) _ _ _ h (fun f hf' => by
        obtain ⟨i, hi⟩ := List.getElem?_of_mem hf'
        have hi' : i < xs.length := by rw [hxl]; simpa using (List.getElem?_eq_some_iff.1 hi).1
        exact ⟨xs[i], by rw [hf i f (by simpa using hi)]; exact List.getElem?_eq_getElem hi', hok' _ (List.getElem_mem hi')⟩)
      rw [List.drop_zero, List.take_of_length_le (by omega)] at this
      exact this
    · simp at h
end

/-- So many elements of these kinds, bounded. -/
def ElemsQ (Q : Nat → Prop) (ks : List Kd) (n : Nat) (cells : List Value) : Prop := ∃ L : List (List Value), L.length = n ∧ cells = L.flatten ∧ ∀ c ∈ L, CellsQ Q ks c
theorem ElemsQ.elems {Q : Nat → Prop} {ks : List Kd} {n : Nat} {cells : List Value} (h : ElemsQ Q ks n cells) : Elems ks n cells := by
  obtain ⟨L, h1, h2, h3⟩ := h
  exact ⟨L, h1, h2, fun c hc => (h3 c hc).cells⟩
/-- Elements as data of one's own. -/
theorem ElemsQ.data {Q : Nat → Prop} {α : Type} {ks : List Kd} {n : Nat} {cells : List Value} (h : ElemsQ Q ks n cells) (en : α → List Value) (R : α → Prop) (hq : ∀ c, CellsQ Q ks c → ∃ a, c = en a ∧ R a) :
    ∃ l : List α, l.length = n ∧ cells = l.flatMap en ∧ ∀ a ∈ l, R a := by
  obtain ⟨L, rfl, rfl, hc⟩ := h
  induction L with
  | nil => exact ⟨[], rfl, rfl, fun a ha => by simp at ha⟩
  | cons c L ih =>
    obtain ⟨l, h1, h2, h3⟩ := ih (fun x hx => hc x (by simp [hx]))
    obtain ⟨a, ha, hqa⟩ := hq c (hc c (by simp))
    refine ⟨a :: l, by simp [h1], by rw [List.flatten_cons, List.flatMap_cons, h2, ha], fun b hb => ?_⟩
    rcases List.mem_cons.1 hb with rfl | hb
    · exact hqa
    · exact h3 b hb

/-- A slice of plain data: its row, its elements. -/
def SliceQ (W : World) (Q : Nat → Prop) (ks : List Kd) (v : Value) : Prop :=
  ∃ (n : Nat) (cells : List Value) (i : Nat × Nat × Nat), LawRow W cells i ∧ ElemsQ Q ks n cells ∧ n ≤ maxLen ∧ Q n ∧ ∀ (μ : Mu) (q : Nat), μ q = some i → VR μ (.slice (some ⟨q, 0, none⟩) n ks.length) v

section
variable {H : Type} {enc : TypeId × Value → H} {P : Program} {ok : DataW H → Prop} {Q : Nat → Prop}

theorem slice_q (hB : OkB ok Q) {W : World} {t e : TypeId} {ks : List Kd} {r : Reach} {b0 d0 fuel : Nat} {v : Value} {x : DataW H × List MemPlace}
    (ht : P.underlying t = some (.slice e)) (hk : kT P d0 e = some ks) (hc : P.cellsOf e = ks.length) (hpos : 0 < ks.length) (hval : Cell.okWide P W r b0 t v) (hf : DataW.trod enc P W 0 (fun _ => true) true fuel t [v] = some x) (hok : ok x.1) :
    SliceQ W Q ks v := by
  have hsl : v = .slice none 0 0 ∨ ∃ a len cap, v = .slice (some a) len cap ∧ W.has P r b0 a e cap ∧ len ≤ cap := by
    unfold Cell.okWide at hval
    rw [ht] at hval
    simp only at hval
    unfold Cell.ok at hval
    rw [ht] at hval
    cases v <;> try exact hval.elim
    rename_i a len cap
    cases a with
    | none =>
      cases len <;> cases cap <;> first | exact .inl rfl | exact hval.elim
    | some a => exact .inr ⟨a, len, cap, rfl, hval.2.2, hval.1⟩
  rcases hsl with h0 | ⟨a, len, cap, rfl, hhas, hlc⟩
  · subst h0
    exact ⟨0, [], (0, 0, 0), ⟨fun v hv => by simp at hv, .inl rfl⟩, ⟨[], rfl, rfl, fun c hc => by simp at hc⟩, Nat.zero_le _, hB.zero, fun μ q _ => .slice0 _ _ _ none⟩
  rcases DataW.trod_slice ht hf with ⟨h1, _⟩ | ⟨a', len', cap', elems, rest, n, _, h1, hx, _, _, hm, hlen, hel, hsp, _⟩
  · simp at h1
  simp at h1
  obtain ⟨rfl, rfl, rfl⟩ := h1
  obtain ⟨hrl, hre⟩ := hsp rfl
  obtain ⟨_, hspot, row, cells, hshape, _⟩ := hhas
  obtain ⟨blk, off, spot⟩ := a
  simp only at hspot
  subst hspot
  obtain ⟨c, el, fr, hblk⟩ : ∃ c el fr, W.heap[blk]? = some (.cells c el fr) := by
    unfold World.shape? at hshape
    split at hshape
    · rename_i c el fr hh; exact ⟨c, el, fr, hh⟩
    · simp at hshape
  have hokE : ∀ y ∈ elems, ok y.1 := fun y hy => by
    rw [hx] at hok
    exact hB.elem _ _ _ hok (List.mem_map.2 ⟨y, hy, rfl⟩)
  have hQ : Q len := by
    rw [hx] at hok
    have := hB.len _ _ hok
    rwa [List.length_map, hlen] at this
  -- each element
  have each : ∀ i, i < cap → off + i * ks.length + ks.length ≤ c.size := by
    intro i hi
    have hb : ∃ y, (W.cells? 0 ((⟨blk, off, none⟩ : Addr).add (i * P.cellsOf e)) (P.cellsOf e)).bind (DataW.trod enc P W 0 (fun _ => true) true n e) = some y := by
      by_cases hi2 : i < len
      · exact ⟨_, by rw [hel i hi2]; exact List.getElem?_eq_getElem (by omega)⟩
      · have := hre (i - len) (by omega)
        rw [show len + (i - len) = i by omega] at this
        exact ⟨_, by rw [this]; exact List.getElem?_eq_getElem (by omega)⟩
    obtain ⟨y, hy⟩ := hb
    rw [Option.bind_eq_some_iff] at hy
    obtain ⟨cs', hcs, hy⟩ := hy
    rw [hc, add_none] at hcs
    exact (cells_at hblk hcs hpos).1
  have each2 : ∀ i, i < len → CellsQ Q ks ((c.toList.drop (off + i * ks.length)).take ks.length) := by
    intro i hi
    have hy := hel i hi
    rw [List.getElem?_eq_getElem (show i < elems.length by omega)] at hy
    rw [Option.bind_eq_some_iff] at hy
    obtain ⟨cs', hcs, hy⟩ := hy
    rw [hc, add_none] at hcs
    obtain ⟨_, k2⟩ := cells_at hblk hcs hpos
    rw [← k2]
    exact flat_q hB d0 e ks cs' n _ hk hc hy (hokE _ (List.getElem_mem _))
  have hlt : cap = 0 ∨ off + cap * ks.length ≤ c.size := by
    rcases Nat.eq_zero_or_pos cap with h | h
    · exact .inl h
    · right
      have := each (cap - 1) (by omega)
      have e1 : (cap - 1) * ks.length + ks.length = cap * ks.length := by rw [← Nat.succ_mul]; congr 1; omega
      omega
  have hL : ElemsQ Q ks len ((c.toList.drop off).take (len * ks.length)) := by
    refine ⟨(List.range len).map fun i => (c.toList.drop (off + i * ks.length)).take ks.length, by simp, ?_, fun x hx => ?_⟩
    · exact chunks _ _ _ _
    · obtain ⟨i, hi, rfl⟩ := List.mem_map.1 hx
      exact each2 i (by have := List.mem_range.1 hi; omega)
  have hcl := hL.elems.len
  refine ⟨len, _, (blk, if cap = 0 then 0 else off, c.size), ⟨hL.elems.plain, ?_⟩, hL, by omega, hQ, fun μ q hq => ?_⟩
  · by_cases hz : cap = 0
    · left; exact List.eq_nil_of_length_eq_zero (by rw [hcl]; have : len = 0 := by omega
                                                    rw [this]; simp)
    · right
      refine ⟨c, el, fr, hblk, rfl, ?_, ?_⟩
      · simp only [if_neg hz]
        rw [hcl]
        have : len * ks.length ≤ cap * ks.length := Nat.mul_le_mul hlc (Nat.le_refl _)
        rcases hlt with h | h <;> omega
      · simp only [if_neg hz]; rw [hcl]
  · by_cases hz : cap = 0
    · have e2 : len = 0 := by omega
      rw [hz, e2]; exact .slice0 _ _ _ _
    · rw [if_neg hz] at hq
      have := VR.slice (μ := μ) q 0 len ks.length blk off c.size cap hq hlc (by rcases hlt with h | h <;> omega)
      simpa using this

theorem slice_arg (hB : OkB ok Q) {W : World} {t e : TypeId} {ks : List Kd} {r : Reach} {b0 d0 : Nat} {v : Value} {d : DataW H} {p : List MemPlace}
    (ht : P.underlying t = some (.slice e)) (hk : kT P d0 e = some ks) (hc : P.cellsOf e = ks.length) (hpos : 0 < ks.length) (hval : Value.okWide P W r b0 t v) (hd : DataW.Trod enc P W 0 (fun _ => true) true t v d p) (hok : ok d) : SliceQ W Q ks v := by
  unfold Value.okWide at hval
  rw [ht] at hval
  simp only at hval
  obtain ⟨fuel, hf⟩ := hd
  have hv : v.cells.toList = [v] := by
    have h2 := hval
    unfold Cell.okWide at h2
    rw [ht] at h2
    simp only at h2
    unfold Cell.ok at h2
    rw [ht] at h2
    cases v <;> first | rfl | exact h2.elim
  rw [hv] at hf
  exact slice_q hB ht hk hc hpos hval hf hok

theorem float_arg {W : World} {t : TypeId} {k : FloatKind} {r : Reach} {b0 : Nat} {v : Value} (ht : P.underlying t = some (.float k)) (hval : Value.okWide P W r b0 t v) : ∃ b, v = .float k b := by
  unfold Value.okWide at hval
  rw [ht] at hval
  simp only at hval
  unfold Cell.okWide at hval
  rw [ht] at hval
  simp only at hval
  unfold Cell.ok at hval
  rw [ht] at hval
  cases v <;> first | exact hval.elim | (obtain rfl := hval; exact ⟨_, rfl⟩) | (obtain rfl := hval.1; exact ⟨_, rfl⟩)

/-! ### Structs that hold slices -/
inductive K2 where
  | p (k : Kd)
  | sl (u el : TypeId) (ks : List Kd)

def kFold2 (P : Program) (g : TypeId → Option (List K2)) : List Field → Nat → Option (List K2)
  | [], _ => some []
  | f :: r, off =>
    match g f.type with
    | some ks => bif Nat.beq f.offset off && Nat.beq (P.cellsOf f.type) ks.length then (match kFold2 P g r (off + ks.length) with | some l => some (ks ++ l) | none => none) else none
    | none => none
def k2T (P : Program) : Nat → TypeId → Option (List K2)
  | 0, _ => none
  | d + 1, t =>
    match P.underlying t with
    | some .bool => some [.p .b]
    | some (.int k) => some [.p (.i k)]
    | some (.float k) => some [.p (.f k)]
    | some .string => some [.p .s]
    | some (.slice el) => (match kT P d el with | some ks => bif Nat.beq (P.cellsOf el) ks.length && Nat.blt 0 ks.length then some [.sl t el ks] else none | none => none)
    | some (.struct fs) => kFold2 P (k2T P d) fs.toList 0
    | _ => none

/-- What is known of a struct's cells by its reading. -/
def T2 (enc : TypeId × Value → H) (P : Program) (W : World) (ok : DataW H → Prop) (Q : Nat → Prop) : List K2 → List Value → Prop
  | [], [] => True
  | .p k :: ks, v :: vs => CellQ Q k v ∧ T2 enc P W ok Q ks vs
  | .sl u el kk :: ks, v :: vs => (P.underlying u = some (.slice el) ∧ P.cellsOf el = kk.length ∧ 0 < kk.length ∧ (∃ d0, kT P d0 el = some kk) ∧ ∃ fuel x, DataW.trod enc P W 0 (fun _ => true) true fuel u [v] = some x ∧ ok x.1) ∧ T2 enc P W ok Q ks vs
  | _, _ => False
theorem T2.append {W : World} : ∀ {ks : List K2} {vs : List Value} {k2 : List K2} {v2 : List Value}, T2 enc P W ok Q ks vs → T2 enc P W ok Q k2 v2 → T2 enc P W ok Q (ks ++ k2) (vs ++ v2) := by
  intro ks
  induction ks with
  | nil => intro vs k2 v2 h k; cases vs with | nil => exact k | cons => exact h.elim
  | cons q ks ih =>
    intro vs k2 v2 h k
    cases vs with
    | nil => cases q <;> exact h.elim
    | cons v vs => cases q <;> exact ⟨h.1, ih h.2 k⟩

theorem fold_2 {W : World} {g : TypeId → Option (List K2)} {cs : List Value} {n : Nat} (hg : ∀ t ks cs' x, g t = some ks → P.cellsOf t = ks.length → DataW.trod enc P W 0 (fun _ => true) true n t cs' = some x → ok x.1 → T2 enc P W ok Q ks cs') :
    ∀ (l : List Field) (off : Nat) (ks : List K2), kFold2 P g l off = some ks → (∀ f ∈ l, ∃ x, DataW.trod enc P W 0 (fun _ => true) true n f.type ((cs.drop f.offset).take (P.cellsOf f.type)) = some x ∧ ok x.1) → T2 enc P W ok Q ks ((cs.drop off).take ks.length) := by
  intro l
  induction l with
  | nil => intro off ks h _; simp [kFold2] at h; subst h; simp [T2]
  | cons f r ih =>
    intro off ks h hx
    simp only [kFold2] at h
    split at h
    · rename_i k1 hk
      cases hb : (Nat.beq f.offset off && Nat.beq (P.cellsOf f.type) k1.length) with
      | false => rw [hb] at h; simp at h
      | true =>
        rw [hb] at h
        simp only [cond_true] at h
        simp only [Bool.and_eq_true] at hb
        have e1 := Nat.eq_of_beq_eq_true hb.1
        have e2 := Nat.eq_of_beq_eq_true hb.2
        split at h
        · rename_i k2 hr
          simp only [Option.some.injEq] at h
          subst h
          obtain ⟨x, hx1, hx2⟩ := hx f (by simp)
          have c1 := hg _ _ _ _ hk e2 hx1 hx2
          rw [e1, e2] at c1
          have c2 := ih _ _ hr fun f' hf' => hx f' (by simp [hf'])
          rw [List.length_append, List.take_add, List.drop_drop]
          exact c1.append c2
        · simp at h
    · simp at h

theorem flat_2 (hB : OkB ok Q) {W : World} : ∀ (d : Nat) (t : TypeId) (ks : List K2) (cs : List Value) (fuel : Nat) (x : DataW H × List MemPlace), k2T P d t = some ks → P.cellsOf t = ks.length → DataW.trod enc P W 0 (fun _ => true) true fuel t cs = some x → ok x.1 → T2 enc P W ok Q ks cs := by
  intro d
  induction d with
  | zero => intro t ks cs fuel x h; simp [k2T] at h
  | succ d ih =>
    intro t ks cs fuel x h hc hx hok
    simp only [k2T] at h
    split at h
    · rename_i ht
      simp at h; subst h
      obtain ⟨b, rfl, _⟩ := DataW.trod_bool ht hx
      exact ⟨⟨trivial, fun s h => by simp at h⟩, trivial⟩
    · rename_i k ht
      simp at h; subst h
      obtain ⟨n, rfl, _, hw⟩ := DataW.trod_int ht hx
      exact ⟨⟨⟨rfl, hw⟩, fun s h => by simp at h⟩, trivial⟩
    · rename_i k ht
      simp at h; subst h
      cases fuel with
      | zero => simp [DataW.trod] at hx
      | succ n =>
        unfold DataW.trod at hx
        rw [ht] at hx
        split at hx <;> simp_all [T2, CellQ, CellIs]
    · rename_i ht
      simp at h; subst h
      obtain ⟨s, rfl, hx1, hs⟩ := DataW.trod_string ht hx
      refine ⟨⟨hs, fun s' h => ?_⟩, trivial⟩
      simp only [Value.string.injEq] at h
      subst h
      rw [hx1] at hok
      have := hB.str _ hok
      rwa [Array.length_toList] at this
    · rename_i el ht
      split at h
      · rename_i kk hkk
        cases hb : (Nat.beq (P.cellsOf el) kk.length && Nat.blt 0 kk.length) with
        | false => rw [hb] at h; simp at h
        | true =>
          rw [hb] at h
          simp only [cond_true, Option.some.injEq] at h
          simp only [Bool.and_eq_true] at hb
          subst h
          have hcs : ∃ v, cs = [v] := by
            rcases DataW.trod_slice ht hx with ⟨h1, _⟩ | ⟨a', len', cap', _, _, _, _, h1, _⟩
            · exact ⟨_, h1⟩
            · exact ⟨_, h1⟩
          obtain ⟨v, rfl⟩ := hcs
          exact ⟨⟨ht, Nat.eq_of_beq_eq_true hb.1, Nat.le_of_ble_eq_true hb.2, ⟨d, hkk⟩, fuel, x, hx, hok⟩, trivial⟩
      · simp at h
    · rename_i fs ht
      obtain ⟨xs, n, rfl, hxx, hl, hxl, hf⟩ := DataW.trod_struct ht hx
      have hok' : ∀ y ∈ xs, ok y.1 := fun y hy => by
        rw [hxx] at hok
        exact hB.agg _ _ hok (List.mem_map.2 ⟨y, hy, rfl⟩)
      have := fold_2 (cs := cs) (n := n) (ok := ok) (Q := Q) (fun t ks cs' x h1 h2 h3 h4 => ih t ks cs' n x h1 h2 h3 h4) _ _ _ h (fun f hf' => by
        obtain ⟨i, hi⟩ := List.getElem?_of_mem hf'
        have hi' : i < xs.length := by rw [hxl]; simpa using (List.getElem?_eq_some_iff.1 hi).1
        exact ⟨xs[i], by rw [hf i f (by simpa using hi)]; exact List.getElem?_eq_getElem hi', hok' _ (List.getElem_mem hi')⟩)
      rw [List.drop_zero, List.take_of_length_le (by omega)] at this
      exact this
    · simp at h

/-- A struct's cells: plain ones, slices with their rows. -/
def Cells2 (W : World) (Q : Nat → Prop) : List K2 → List Value → Prop
  | [], [] => True
  | .p k :: ks, v :: vs => CellQ Q k v ∧ Cells2 W Q ks vs
  | .sl _ _ kk :: ks, v :: vs => SliceQ W Q kk v ∧ Cells2 W Q ks vs
  | _, _ => False

/-- The types of slices, at their places. -/
def k2At : List K2 → List TypeId → Bool
  | [], [] => true
  | .p _ :: ks, _ :: ts => k2At ks ts
  | .sl u _ _ :: ks, t :: ts => Nat.beq u t && k2At ks ts
  | _, _ => false

theorem cells_2 (hB : OkB ok Q) {W : World} {r : Reach} {b0 : Nat} : ∀ (ks : List K2) (cs : List Value) (ts : List TypeId), k2At ks ts = true → T2 enc P W ok Q ks cs → (∀ (i : Nat) v, cs[i]? = some v → ∃ u, ts[i]? = some u ∧ Cell.okWide P W r b0 u v) → Cells2 W Q ks cs := by
  intro ks
  induction ks with
  | nil => intro cs ts _ h _; cases cs with | nil => trivial | cons => exact h.elim
  | cons k ks ih =>
    intro cs ts hk h hv
    cases cs with
    | nil => cases k <;> exact h.elim
    | cons v vs =>
      cases ts with
      | nil => cases k <;> simp [k2At] at hk
      | cons t ts =>
        have hv' : ∀ (i : Nat) v', vs[i]? = some v' → ∃ u, ts[i]? = some u ∧ Cell.okWide P W r b0 u v' := fun i v' h' => by simpa using hv (i + 1) v' (by simpa using h')
        cases k with
        | p k => exact ⟨h.1, ih vs ts hk h.2 hv'⟩
        | sl u el kk =>
          simp only [k2At, Bool.and_eq_true] at hk
          obtain ⟨⟨h1, h2, h3, ⟨d0, h4⟩, fuel, x, h5, h6⟩, h7⟩ := h
          obtain ⟨u', hu, hval⟩ := hv 0 v rfl
          simp only [List.getElem?_cons_zero, Option.some.injEq] at hu
          have := Nat.eq_of_beq_eq_true hk.1
          subst this; subst hu
          exact ⟨slice_q hB h1 h4 h2 h3 hval h5 h6, ih vs ts hk.2 h7 hv'⟩

theorem struct_arg (hB : OkB ok Q) {W : World} {t : TypeId} {fs : Array Field} {k2 : List K2} {ts : List TypeId} {r : Reach} {b0 d0 : Nat} {v : Value} {d : DataW H} {p : List MemPlace}
    (ht : P.underlying t = some (.struct fs)) (hk : k2T P d0 t = some k2) (hc : P.cellsOf t = k2.length) (hts : P.cellTypes P.depth t = some ts) (hlen : Nat.beq ts.length k2.length = true) (hat : k2At k2 ts = true)
    (hval : Value.okWide P W r b0 t v) (hd : DataW.Trod enc P W 0 (fun _ => true) true t v d p) (hok : ok d) : ∃ cs, v = .agg ⟨cs⟩ ∧ Cells2 W Q k2 cs := by
  unfold Value.okWide at hval
  rw [ht] at hval
  simp only at hval
  obtain ⟨⟨cs⟩, rfl, hsz, ts', hts', _, hrow⟩ := hval
  rw [hts] at hts'
  simp only [Option.some.injEq] at hts'
  subst hts'
  obtain ⟨fuel, hf⟩ := hd
  have hT := flat_2 hB d0 t k2 cs fuel _ hk hc hf hok
  refine ⟨cs, rfl, cells_2 (r := r) (b0 := b0) hB k2 cs ts hat hT fun i v hv => ?_⟩
  have hl := Nat.eq_of_beq_eq_true hlen
  obtain ⟨u, hu, hcell⟩ := hrow i v (by simpa using hv)
  have hi := (List.getElem?_eq_some_iff.1 hv).1
  have hsz' : cs.length = P.cellsOf t := by simpa using hsz
  rw [Nat.mod_eq_of_lt (by omega)] at hu
  exact ⟨u, hu, hcell⟩
end

/-! ### Single cells, opened -/
theorem cq_s {Q : Nat → Prop} {v : Value} (h : CellQ Q .s v) : ∃ s, v = .string s ∧ s.size ≤ maxLen ∧ Q s.size := by
  obtain ⟨h1, h2⟩ := h
  cases v <;> first | exact h1.elim | exact ⟨_, rfl, h1, h2 _ rfl⟩
theorem cq_i {Q : Nat → Prop} {k : IntKind} {v : Value} (h : CellQ Q (.i k) v) : ∃ n, v = .int k n ∧ (Lit.int k n).wf = true := by
  obtain ⟨h1, _⟩ := h
  cases v <;> first | exact h1.elim | (obtain ⟨rfl, h⟩ := h1; exact ⟨_, rfl, h⟩)
theorem cq_b {Q : Nat → Prop} {v : Value} (h : CellQ Q .b v) : ∃ b, v = .bool b := by
  obtain ⟨h1, _⟩ := h
  cases v <;> first | exact h1.elim | exact ⟨_, rfl⟩
theorem cq_f {Q : Nat → Prop} {k : FloatKind} {v : Value} (h : CellQ Q (.f k) v) : ∃ b, v = .float k b := by
  obtain ⟨h1, _⟩ := h
  cases v <;> first | exact h1.elim | (obtain rfl := h1; exact ⟨_, rfl⟩)
end Go.Sy
