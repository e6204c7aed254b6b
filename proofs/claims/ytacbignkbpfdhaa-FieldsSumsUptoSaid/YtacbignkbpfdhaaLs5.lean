/- What fields take. -/
import Derived.Test.YtacbignkbpfdhaaSz9
import Derived.Test.YtacbignkbpfdhaaRows
set_option linter.unusedSimpArgs false
set_option linter.unusedVariables false
namespace Go.Proofs.Ytacbignkbpfdhaa.s5
open Go Go.Ev Go.Sy Go.RowKit
theorem mixed : Try.prog.follows .mixedOrders = true := by kernel_rfl
noncomputable abbrev E0 : Env := envN Try.prog
structure Fd where
  a : ByteArray
  b : ByteArray
def fdC (x : Fd) : List Value := [.string x.a, .string x.b]
def fdV (x : Fd) : Value := .agg ⟨fdC x⟩
def fdCells (l : List Fd) : List Value := l.flatMap fdC
def fdRo (l : List Fd) : Row := ⟨fdCells l, true, .cells true⟩
/-- What a field takes; what fields take. -/
def one (f : Fd) : Nat := f.a.data.toList.length + f.b.data.toList.length + 32
def tot : List Fd → Nat
  | [] => 0
  | f :: l => one f + tot l
def pSum : List Nat := [0, 1, 0, 1, 1]
def slSum (l : List Fd) (s : Nat × Int) : List (Nat × Value) := [(3, .int .i64 s.2), (6, .slice (some ⟨0, 0, none⟩) l.length 2), (7, .int .i64 (l.length : Nat)), (8, .int .i64 (s.1 : Nat))]
def rlSum (l : List Fd) (_ : Nat × Int) : List (Nat × Row) := [(0, fdRo l)]
def wsSum (l : List Fd) : List (Gate Unit) := [⟨.exit 0, fun _ => True, fun _ => [(3, .int .i64 (tot l : Nat))], fun _ => [(0, fdRo l)], 1⟩]
def specSum : Sy.Spec := specOf 1 1 18 (fun l : List Fd => l.length ≤ maxLen ∧ tot l ≤ 4611686018427387904) (fun l => slSum l (0, 0)) (fun l => rlSum l (0, 0)) wsSum
def mSum := mOf [(10, pSum, specSum)]
theorem bytes_vc (x : Fd) (n : Int) : mcall E0 noM 60 9 [fdV x] ⟨mkR (nums 0 []), 0⟩ (retIs 0 (.int .i64 n) []) =
  ((n = IntKind.wrap IntKind.i64 (IntKind.wrap IntKind.i64 (Int.ofNat (List.length x.1.1.1) + Int.ofNat (List.length x.2.1.1)) + (32 : Int))) ∧
  True) := by kernel_rfl
theorem sum_round (l : List Fd) (i : Nat × Int) (Inv : Nat × Int → Prop) (m : Nat × Int → Nat) : mev E0 noM 60 10 (0 :: pSum) false (codeOf Try.prog 10 (0 :: pSum)) ⟨mkOv (slSum l i), 18, []⟩ none ⟨mkR (rlSum l i), 1⟩ (roundK 1 1 18 Inv m (slSum l) (rlSum l) (wsSum l) i) =
  (br (decide ((↑i.1 : Int) < (↑(List.length l) : Int)))
   (br (decide ((0 : Int) ≤ (↑i.1 : Int) ∧ (↑i.1 : Int) < (↑(List.length l) : Int)))
    ((Eq (α := Option Value) ((fdCells l)[(0 : Nat) + Int.toNat (↑i.1 : Int) * (2 : Nat)]?) (some (Value.string (cellS (fdCells l) ((0 : Nat) + Int.toNat (↑(Prod.fst i) : Int) * TypeInfo.size (Tables.types (Program.toTables (Env.P E0)))[(23 : Nat)]))))) ∧
    ((Eq (α := Option Value) ((fdCells l)[(0 : Nat) + Int.toNat (↑i.1 : Int) * (2 : Nat) + (1 : Nat)]?) (some (Value.string (cellS (fdCells l) ((0 : Nat) + Int.toNat (↑(Prod.fst i) : Int) * TypeInfo.size (Tables.types (Program.toTables (Env.P E0)))[(23 : Nat)] + (1 : Nat)))))) ∧
    (∃ j : Nat × Int, ((Inv j) ∧
    ((m j < m i) ∧
    ((j.2 = IntKind.wrap IntKind.i64 (i.2 + IntKind.wrap IntKind.i64 (IntKind.wrap IntKind.i64 (Int.ofNat (List.length (cellS (fdCells l) ((0 : Nat) + Int.toNat (↑i.1 : Int) * (2 : Nat))).1.1) + Int.ofNat (List.length (cellS (fdCells l) ((0 : Nat) + Int.toNat (↑i.1 : Int) * (2 : Nat) + (1 : Nat))).1.1)) + (32 : Int)))) ∧
    (((0 : Nat) = (0 : Nat)) ∧
    ((List.length l = List.length l) ∧
    (((↑(List.length l) : Int) = (↑(List.length l) : Int)) ∧
    (((↑j.1 : Int) = IntKind.wrap IntKind.i64 ((↑i.1 : Int) + (1 : Int))) ∧
    ((Eq (α := List Value) (fdCells l) (fdCells l)) ∧
    ((Plain (fdCells l)) ∧
    True))))))))))))
    False)
   (∃ y : Unit, ((True) ∧
   (((↑(tot l) : Int) = i.2) ∧
   ((Eq (α := List Value) (fdCells l) (fdCells l)) ∧
   ((Plain (fdCells l)) ∧
   True)))))) := by kernel_rfl
theorem sum_vc (l : List Fd) (n : Int) : mcall E0 mSum 60 10 [.slice (some ⟨0, 0, none⟩) l.length 2] ⟨mkR (nums 0 [fdRo l]), 1⟩ (retIs 1 (.int .i64 n) [fdRo l]) =
  (∃ g : List Fd, ((List.length g ≤ (9223372036854775807 : Nat) ∧ tot g ≤ (4611686018427387904 : Nat)) ∧
  (((0 : Int) = (0 : Int)) ∧
  (((0 : Nat) = (0 : Nat)) ∧
  ((List.length g = List.length l) ∧
  (((↑(List.length g) : Int) = Int.ofNat (List.length l)) ∧
  (((0 : Int) = (0 : Int)) ∧
  ((Eq (α := List Value) (fdCells g) (fdCells l)) ∧
  ((Plain (fdCells g)) ∧
  (∀ (y : Unit), ((True) →
  ((n = (↑(tot g) : Int)) ∧
  ((Eq (α := List Value) (fdCells l) (fdCells g)) ∧
  ((Plain (fdCells l)) ∧
  True)))))))))))))) := by kernel_rfl
theorem slice_row2 {H : Type} {enc : TypeId × Value → H} {P : Program} {W : World} {t e : TypeId} {ks : List Sy.Kd} {r : Reach} {b0 d0 : Nat} {v : Value} {d : DataW H} {p : List MemPlace} (R : List Value → DataW H → Prop)
    (hR : ∀ (fuel : Nat) (cs : List Value) (y : DataW H × List MemPlace), DataW.trod enc P W 0 (fun _ => true) true fuel e cs = some y → R cs y.1)
    (ht : P.underlying t = some (.slice e)) (hk : kT P d0 e = some ks) (hc : P.cellsOf e = ks.length) (hpos : 0 < ks.length) (hval : Value.okWide P W r b0 t v) (hd : DataW.Trod enc P W 0 (fun _ => true) true t v d p) :
    ∃ (n : Nat) (L : List (List Value)) (i : Nat × Nat × Nat), LawRow W L.flatten i ∧ L.length = n ∧ n ≤ maxLen ∧ ((n = 0) ∨ ∃ elems rest, d = .slice elems rest ∧ elems.length = n ∧ ∀ j, j < n → ∃ c x, L[j]? = some c ∧ elems[j]? = some x ∧ R c x) ∧
      ∀ (μ : Mu) (q : Nat), μ q = some i → VR μ (.slice (some ⟨q, 0, none⟩) n ks.length) v := by
  have hsl : v = .slice none 0 0 ∨ ∃ a len cap, v = .slice (some a) len cap ∧ W.has P r b0 a e cap ∧ len ≤ cap := by
    unfold Value.okWide at hval
    rw [ht] at hval
    simp only at hval
    unfold Cell.okWide at hval
    rw [ht] at hval
    simp only at hval
    unfold Cell.ok at hval
    rw [ht] at hval
    cases v <;> try exact hval.elim
    rename_i a len cap
    cases a with
    | none =>
      cases len <;> cases cap <;> first | exact .inl rfl | exact hval.elim
    | some a => exact .inr ⟨a, len, cap, rfl, hval.2.2, hval.1⟩
  rcases hsl with h0 | ⟨a, len, cap, rfl, hhas, hlc⟩
  · subst h0
    refine ⟨0, [], (0, 0, 0), ⟨fun v hv => by simp at hv, .inl rfl⟩, rfl, Nat.zero_le _, .inl rfl, fun μ q _ => .slice0 _ _ _ none⟩
  obtain ⟨fuel, hf⟩ := hd
  rcases DataW.trod_slice ht hf with ⟨h1, _⟩ | ⟨a', len', cap', elems, rest, n, _, h1, hx, _, _, hm, hlen, hel, hsp, _⟩
  · simp [Value.cells] at h1
  simp [Value.cells] at h1
  obtain ⟨rfl, rfl, rfl⟩ := h1
  obtain ⟨hrl, hre⟩ := hsp rfl
  obtain ⟨_, hspot, row, cells, hshape, _⟩ := hhas
  obtain ⟨blk, off, spot⟩ := a
  simp only at hspot
  subst hspot
  obtain ⟨c, el, fr, hblk⟩ : ∃ c el fr, W.heap[blk]? = some (.cells c el fr) := by
    unfold World.shape? at hshape
    split at hshape
    · rename_i c el fr hh; exact ⟨c, el, fr, hh⟩
    · simp at hshape
  -- each element
  have each : ∀ i, i < cap → off + i * ks.length + ks.length ≤ c.size ∧ Cells ks ((c.toList.drop (off + i * ks.length)).take ks.length) := by
    intro i hi
    have hb : ∃ y, (W.cells? 0 ((⟨blk, off, none⟩ : Addr).add (i * P.cellsOf e)) (P.cellsOf e)).bind (DataW.trod enc P W 0 (fun _ => true) true n e) = some y := by
      by_cases hi2 : i < len
      · exact ⟨_, by rw [hel i hi2]; exact List.getElem?_eq_getElem (by omega)⟩
      · have := hre (i - len) (by omega)
        rw [show len + (i - len) = i by omega] at this
        exact ⟨_, by rw [this]; exact List.getElem?_eq_getElem (by omega)⟩
    obtain ⟨y, hy⟩ := hb
    rw [Option.bind_eq_some_iff] at hy
    obtain ⟨cs', hcs, hy⟩ := hy
    rw [hc, add_none] at hcs
    obtain ⟨k1, k2⟩ := cells_at hblk hcs hpos
    refine ⟨k1, ?_⟩
    rw [← k2]
    exact flat_cells d0 e ks cs' n y hk hc hy
  have each2 : ∀ i, i < len → ∃ y : DataW H × List MemPlace, elems[i]? = some y ∧ R ((c.toList.drop (off + i * ks.length)).take ks.length) y.1 := by
    intro i hi
    have hy := hel i hi
    rw [List.getElem?_eq_getElem (show i < elems.length by omega)] at hy
    rw [Option.bind_eq_some_iff] at hy
    obtain ⟨cs', hcs, hy⟩ := hy
    rw [hc, add_none] at hcs
    obtain ⟨_, k2⟩ := cells_at hblk hcs hpos
    exact ⟨elems[i], List.getElem?_eq_getElem _, by rw [← k2]; exact hR n cs' _ hy⟩
  have hlt : cap = 0 ∨ off + cap * ks.length ≤ c.size := by
    rcases Nat.eq_zero_or_pos cap with h | h
    · exact .inl h
    · right
      have := (each (cap - 1) (by omega)).1
      have e1 : (cap - 1) * ks.length + ks.length = cap * ks.length := by rw [← Nat.succ_mul]; congr 1; omega
      omega
  have hL : Elems ks len ((c.toList.drop off).take (len * ks.length)) := by
    refine ⟨(List.range len).map fun i => (c.toList.drop (off + i * ks.length)).take ks.length, by simp, ?_, fun x hx => ?_⟩
    · exact chunks _ _ _ _
    · obtain ⟨i, hi, rfl⟩ := List.mem_map.1 hx
      exact (each i (by have := List.mem_range.1 hi; omega)).2
  have hcl := hL.len
  have hch := chunks c.toList off ks.length len
  refine ⟨len, (List.range len).map fun i => (c.toList.drop (off + i * ks.length)).take ks.length, (blk, if cap = 0 then 0 else off, c.size), ⟨by rw [← hch]; exact hL.plain, ?_⟩, by simp, by omega, ?_, fun μ q hq => ?_⟩
  rw [← hch]
  · by_cases hz : cap = 0
    · left; exact List.eq_nil_of_length_eq_zero (by rw [hcl]; have : len = 0 := by omega
                                                    rw [this]; simp)
    · right
      refine ⟨c, el, fr, hblk, rfl, ?_, ?_⟩
      · simp only [if_neg hz]
        rw [hcl]
        have : len * ks.length ≤ cap * ks.length := Nat.mul_le_mul hlc (Nat.le_refl _)
        rcases hlt with h | h <;> omega
      · simp only [if_neg hz]; rw [hcl]
  · right
    simp only [Prod.mk.injEq] at hx
    refine ⟨_, _, hx.1, by simpa using hlen, fun j hj => ?_⟩
    obtain ⟨y, y1, y2⟩ := each2 j hj
    exact ⟨_, y.1, by rw [List.getElem?_map, List.getElem?_range hj]; rfl, by rw [List.getElem?_map, y1]; rfl, y2⟩
  · by_cases hz : cap = 0
    · have e2 : len = 0 := by omega
      rw [hz, e2]; exact .slice0 _ _ _ _
    · rw [if_neg hz] at hq
      have := VR.slice (μ := μ) q 0 len ks.length blk off c.size cap hq hlc (by rcases hlt with h | h <;> omega)
      simpa using this

theorem fdC_len (l : List Fd) : (fdCells l).length = l.length * 2 := by
  induction l with
  | nil => rfl
  | cons a l ih => unfold fdCells at ih ⊢; rw [List.flatMap_cons, List.length_append, ih]; simp [fdC]; omega
theorem fdC_plain (l : List Fd) : Plain (fdCells l) := by
  intro v hv
  obtain ⟨a, _, h⟩ := List.mem_flatMap.1 hv
  simp [fdC] at h
  rcases h with rfl | rfl <;> rfl
theorem fdC_get (l : List Fd) (i : Nat) (h : i < l.length) : ∃ a : Fd, l.drop i = a :: l.drop (i + 1) ∧ (fdCells l)[i * 2]? = some (.string a.a) ∧ (fdCells l)[i * 2 + 1]? = some (.string a.b) := by
  induction l generalizing i with
  | nil => simp at h
  | cons a l ih =>
    cases i with
    | zero => exact ⟨a, rfl, rfl, rfl⟩
    | succ i =>
      obtain ⟨b, h0, h1, h2⟩ := ih i (by simpa using h)
      have e : ∀ q, (fdCells (a :: l))[q + 2]? = (fdCells l)[q]? := fun q => by
        unfold fdCells; rw [List.flatMap_cons]; simp [fdC]
      refine ⟨b, by simpa using h0, ?_, ?_⟩
      · rw [show (i + 1) * 2 = i * 2 + 2 by omega, e, h1]
      · rw [show (i + 1) * 2 + 1 = i * 2 + 1 + 2 by omega, e, h2]
theorem cellS_of {l : List Value} {i : Nat} {s : ByteArray} (h : l[i]? = some (.string s)) : cellS l i = s := by unfold cellS; rw [h]
theorem tot_app (b : List Fd) : ∀ a, tot (a ++ b) = tot a + tot b
  | [] => by simp [tot]
  | f :: a => by rw [List.cons_append, tot, tot, tot_app b a]; omega
theorem tot_len : ∀ a, 32 * a.length ≤ tot a
  | [] => Nat.le_refl _
  | f :: a => by have := tot_len a; rw [tot, one, List.length_cons]; omega
def invSum (l : List Fd) (s : Nat × Int) : Prop := s.1 ≤ l.length ∧ s.2 + (tot (l.drop s.1) : Nat) = (tot l : Nat) ∧ 0 ≤ s.2
def msSum (l : List Fd) (s : Nat × Int) : Nat := l.length - s.1
theorem sum_piece : PieceOk E0 1 (10, pSum, specSum) := by
  refine piece_loop mixed (calls_envN _) (lok_envN _) lm_none (n := 60) (by kernel_rfl) (fun _ : List Fd => ((0, 0) : Nat × Int)) invSum msSum (sl := slSum) (rl := rlSum) (fun l hg => ⟨Nat.zero_le _, by simp, Int.le_refl _⟩) (fun l s hg hi => ?_)
  refine (sum_round l s _ _).mpr ?_
  obtain ⟨i, n⟩ := s
  obtain ⟨h1, h2, h3⟩ := hi
  obtain ⟨hl, ht⟩ := hg
  have hm : maxLen = 9223372036854775807 := by unfold maxLen; rfl
  simp only at h1 h2 h3
  simp only [ofNat_eq, toNat_cast, Nat.zero_add, Nat.add_zero, Nat.mul_one, List.drop_zero, bCells_len, bCells_drop, bCells_take, bCells_app, bCells_one, bCells_plain, List.length_replicate, List.length_append, List.length_take, List.length_drop, List.take_length, and_true, true_and, and_self, decide_true, List.length_nil, List.length_cons, Nat.sub_zero, dB_mk, dB_ro, List.take_zero, fdC_plain]
  refine br_if (fun h => br_dec (by omega) ?_) (fun h => ?_)
  · obtain ⟨a, h0, c1, c2⟩ := fdC_get l i (by omega)
    have hz : (E0.P.types[23]'(Nat.le_of_ble_eq_true (by kernel_rfl))).size = 2 := by kernel_rfl
    rw [h0, tot, one] at h2
    have w : IntKind.i64.wrap ((i : Int) + 1) = ((i + 1 : Nat) : Int) := by rw [wr64_id (by unfold I64; omega)]; omega
    rw [hz, cellS_of c1, cellS_of c2, w, wr64_id (n := (a.a.data.toList.length : Int) + a.b.data.toList.length) (by unfold I64; omega), wr64_id (n := (a.a.data.toList.length : Int) + a.b.data.toList.length + 32) (by unfold I64; omega), wr64_id (by unfold I64; omega)]
    exact ⟨c1, c2, (i + 1, _), ⟨by simp only; omega, by simp only; omega, by simp only; omega⟩, by unfold msSum; simp only; omega, rfl, rfl⟩
  · rw [List.drop_eq_nil_of_le (by omega), tot] at h2
    exact ⟨(), by simp at h2; omega⟩
theorem sum_con (l : List Fd) (hl : l.length ≤ maxLen) (ht : tot l ≤ 4611686018427387904) : Con Try.prog 10 [.slice (some ⟨0, 0, none⟩) l.length 2] [fdRo l] (.int .i64 (tot l : Nat)) [fdRo l] := by
  refine con_vc (E := E0) mixed (calls_envN _) (lok_envN _) (M := mSum) (lm_one sum_piece) (sum_vc l _) ?_
  have hm : maxLen = 9223372036854775807 := by unfold maxLen; rfl
  simp only [ofNat_eq, toNat_cast, Nat.zero_add, Nat.add_zero, Nat.mul_one, List.drop_zero, bCells_len, bCells_drop, bCells_take, bCells_app, bCells_one, bCells_plain, List.length_replicate, List.length_append, List.length_take, List.length_drop, List.take_length, and_true, true_and, and_self, decide_true, List.length_nil, List.length_cons, Nat.sub_zero, dB_mk, dB_ro, List.take_zero, fdC_plain]
  exact ⟨l, ⟨by omega, ht⟩, rfl, rfl, rfl, fun _ _ => ⟨rfl, rfl⟩⟩
end Go.Proofs.Ytacbignkbpfdhaa.s5
