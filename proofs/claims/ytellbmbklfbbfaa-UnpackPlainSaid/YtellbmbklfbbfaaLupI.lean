/- A block of plain fields, read. -/
import Derived.Test.YtellbmbklfbbfaaSz9
import Derived.Test.YtellbmbklfbbfaaRows
import Derived.Test.YtellbmbklfbbfaaLupH
set_option maxRecDepth 20000
set_option linter.unusedSimpArgs false
set_option linter.unusedVariables false
namespace Go.Proofs.Ytellbmbklfbbfaa.up
open Go Go.Ev Go.Sy Go.RowKit Go.Proofs.Ytellbmbklfbbfaa.gl Go.Proofs.Ytellbmbklfbbfaa.tk Go.Proofs.Ytellbmbklfbbfaa.hf Go.Proofs.Ytellbmbklfbbfaa.s3 Go.Proofs.Ytellbmbklfbbfaa.tb
def txB0 (s : List UInt8) : List UInt8 := UInt8.ofNat s.length :: s
def itB (hd : UInt8) (f : Fl) : List UInt8 := hd :: (txB0 f.n ++ txB0 f.v)
def itsB (hd : UInt8) (l : List Fl) : List UInt8 := l.flatMap (itB hd)
def okF (f : Fl) : Prop := f.n.length ≤ 100 ∧ f.v.length ≤ 100
theorem atB_at (pre r : List UInt8) (c : UInt8) : atB (pre ++ c :: r) pre.length = c.toNat := by
  unfold atB
  rw [List.getD_eq_getElem?_getD, List.getElem?_append_right (Nat.le_refl _), Nat.sub_self]; rfl
theorem nu_at (b : List UInt8) (i n : Nat) (hi : i < b.length) (h1 : 1 ≤ n) (h8 : n ≤ 8) (hlt : atB b i % 2 ^ n < 2 ^ n - 1) : nuR b i n = ⟨0, i + 1, atB b i % 2 ^ n⟩ := by
  have e : getOut b i n = (atB b i % 2 ^ n, i + 1, 0) := by
    unfold getOut; rw [if_neg (by omega), if_neg (by omega)]; simp only [toNat_cast]; rw [if_pos hlt]
  unfold nuR
  rw [e]; rfl
theorem ofN (n : Nat) (h : n ≤ 100) : (UInt8.ofNat n).toNat = n := u8_toNat_ofNat (by omega)
theorem tx_at (b pre rest s : List UInt8) (hs : s.length ≤ 100) (hb : b = pre ++ (txB0 s ++ rest)) : txR b pre.length = ⟨0, (pre ++ txB0 s).length, s⟩ := by
  have hb' : b = pre ++ UInt8.ofNat s.length :: (s ++ rest) := by rw [hb]; rfl
  have ha : atB b pre.length = s.length := by rw [hb', atB_at, ofN _ hs]
  have hl : b.length = pre.length + 1 + s.length + rest.length := by rw [hb']; simp; omega
  have e7 : (2 : Nat) ^ 7 = 128 := rfl
  have hn : nuR b pre.length 7 = ⟨0, pre.length + 1, s.length⟩ := by
    rw [nu_at b pre.length 7 (by omega) (by omega) (by omega) (by rw [ha, e7]; omega), ha, e7, Nat.mod_eq_of_lt (by omega)]
  have hd : (b.drop (pre.length + 1)).take s.length = s := by
    have : b = (pre ++ [UInt8.ofNat s.length]) ++ (s ++ rest) := by rw [hb']; simp
    rw [this, show pre.length + 1 = (pre ++ [UInt8.ofNat s.length]).length by simp, List.drop_left, List.take_left]
  unfold txR
  rw [hn]
  simp only [hd, ha]
  rw [if_neg (by omega), if_neg (by simp), if_neg (by omega), if_neg (by omega), if_pos (by omega)]
  have : (pre ++ txB0 s).length = pre.length + 1 + s.length := by unfold txB0; simp; omega
  rw [this]
theorem li_at (l : List Fl) (b pre rest : List UInt8) (hd : UInt8) (f : Fl) (h16 : hd.toNat % 16 = 0) (hf : okF f) (hb : b = pre ++ (itB hd f ++ rest)) : liR l b pre.length 4 = ⟨0, (pre ++ itB hd f).length, f⟩ := by
  have hb1 : b = pre ++ hd :: (txB0 f.n ++ (txB0 f.v ++ rest)) := by rw [hb]; unfold itB; simp
  have hb2 : b = (pre ++ [hd]) ++ (txB0 f.n ++ (txB0 f.v ++ rest)) := by rw [hb1]; simp
  have hb3 : b = (pre ++ [hd] ++ txB0 f.n) ++ (txB0 f.v ++ rest) := by rw [hb2]; simp
  have ha : atB b pre.length = hd.toNat := by rw [hb1, atB_at]
  have hl : pre.length < b.length := by rw [hb1]; simp
  have e4 : (2 : Nat) ^ 4 = 16 := rfl
  have hn : nuR b pre.length 4 = ⟨0, (pre ++ [hd]).length, 0⟩ := by
    rw [nu_at b pre.length 4 hl (by omega) (by omega) (by rw [ha, e4]; omega), ha, e4, h16]; simp
  have t1 := tx_at b (pre ++ [hd]) (txB0 f.v ++ rest) f.n hf.1 hb2
  have t2 := tx_at b (pre ++ [hd] ++ txB0 f.n) rest f.v hf.2 hb3
  unfold liR lvR
  rw [hn]
  simp only [t1, t2]
  have : (pre ++ [hd] ++ txB0 f.n ++ txB0 f.v) = pre ++ itB hd f := by unfold itB; simp
  rw [this]
  simp
theorem step_at (x : Cx) (s : St) (pre rest : List UInt8) (hd : UInt8) (h : Int) (f : Fl) (hh : (hd = 0 ∧ h = 2) ∨ (hd = 16 ∧ h = 3)) (hf : okF f) (hb : x.b = pre ++ (itB hd f ++ rest)) (hi : s.i = pre.length) (hl : s.sum + (fbN f : Nat) ≤ x.list) :
    step x s = ⟨0, ⟨(pre ++ itB hd f).length, s.W ++ [⟨f, h⟩], s.sum + (fbN f : Nat), s.sz, s.t⟩⟩ := by
  have hb1 : x.b = pre ++ hd :: (txB0 f.n ++ (txB0 f.v ++ rest)) := by rw [hb]; unfold itB; simp
  have ha : atB x.b s.i = hd.toNat := by rw [hi, hb1, atB_at]
  have h16 : hd.toNat % 16 = 0 := by rcases hh with ⟨rfl, _⟩ | ⟨rfl, _⟩ <;> decide
  have hlit : liR s.t.l x.b s.i 4 = ⟨0, (pre ++ itB hd f).length, f⟩ := by rw [hi]; exact li_at s.t.l x.b pre rest hd f h16 hf hb
  have hs : ∀ h, stLi x s h = ⟨0, ⟨(pre ++ itB hd f).length, s.W ++ [⟨f, h⟩], s.sum + (fbN f : Nat), s.sz, s.t⟩⟩ := fun h => by
    unfold stLi
    rw [hlit]
    simp only [ne_eq, not_true_eq_false, if_false]
    unfold rowO roW roS
    simp only
    rw [if_neg (by omega), if_neg (by omega)]
  unfold step
  rw [ha]
  rcases hh with ⟨rfl, rfl⟩ | ⟨rfl, rfl⟩
  · exact hs 2
  · exact hs 3
theorem run_at (x : Cx) (hd : UInt8) (h : Int) (hh : (hd = 0 ∧ h = 2) ∨ (hd = 16 ∧ h = 3)) : ∀ (L : List Fl) (pre : List UInt8) (s : St) (k : Nat), L.length ≤ k → (∀ f ∈ L, okF f) → x.b = pre ++ itsB hd L → s.i = pre.length → s.sum + (smN L : Nat) ≤ x.list →
    runO x k s = ⟨0, ⟨x.b.length, s.W ++ L.map (fun f => ⟨f, h⟩), s.sum + (smN L : Nat), s.sz, s.t⟩⟩
  | [], pre, s, k, _, _, hb, hi, _ => by
    have hl : x.b.length = s.i := by rw [hb, hi]; simp [itsB]
    have e : runO x k s = ⟨0, s⟩ := by
      cases k with
      | zero => rfl
      | succ q => unfold runO; rw [if_pos (by omega)]
    rw [e, hl]
    have : smN [] = 0 := rfl
    simp [this]
  | f :: L, pre, s, k, hk, hf, hb, hi, hs => by
    obtain ⟨q, rfl⟩ : ∃ q, k = q + 1 := ⟨k - 1, by simp at hk; omega⟩
    have es : smN (f :: L) = fbN f + smN L := by unfold smN; rw [List.map_cons, List.sum_cons]
    have hb' : x.b = pre ++ (itB hd f ++ itsB hd L) := by rw [hb]; rfl
    have st := step_at x s pre (itsB hd L) hd h f hh (hf f (List.mem_cons_self ..)) hb' hi (by omega)
    have hl : s.i < x.b.length := by rw [hb', hi]; unfold itB; simp
    have ih := run_at x hd h hh L (pre ++ itB hd f) ⟨(pre ++ itB hd f).length, s.W ++ [⟨f, h⟩], s.sum + (fbN f : Nat), s.sz, s.t⟩ q (by simp at hk; omega) (fun g hg => hf g (List.mem_cons_of_mem _ hg)) (by rw [hb']; simp) rfl (by simp only; omega)
    unfold runO
    rw [if_neg (by omega), st]
    simp only [ne_eq, not_true_eq_false, if_false]
    rw [ih, es]
    have e2 : s.sum + (fbN f : Nat) + (smN L : Nat) = s.sum + ((fbN f + smN L : Nat) : Int) := by omega
    simp only [e2, List.map_cons, List.append_assoc, List.singleton_append]
theorem its_len (hd : UInt8) (L : List Fl) : L.length ≤ (itsB hd L).length := by
  induction L with
  | nil => exact Nat.le_refl _
  | cons f L ih =>
    have : itsB hd (f :: L) = itB hd f ++ itsB hd L := rfl
    rw [this, List.length_append, List.length_cons]; unfold itB; simp; omega
theorem up_plain (top list : Int) (hd : UInt8) (h : Int) (hh : (hd = 0 ∧ h = 2) ∨ (hd = 16 ∧ h = 3)) (L : List Fl) (t : Tb) (hf : ∀ f ∈ L, okF f) (hs : (smN L : Int) ≤ list) : upE ⟨top, list, itsB hd L⟩ false t = 0 ∧ upW ⟨top, list, itsB hd L⟩ false t = L.map (fun f => ⟨f, h⟩) ∧ upT ⟨top, list, itsB hd L⟩ false t = t ∧ upB ⟨top, list, itsB hd L⟩ false t = false := by
  have e : blO ⟨top, list, itsB hd L⟩ t = ⟨0, ⟨(itsB hd L).length, [] ++ L.map (fun f => ⟨f, h⟩), 0 + (smN L : Nat), 0, t⟩⟩ := run_at ⟨top, list, itsB hd L⟩ hd h hh L [] (st0 t) _ (its_len hd L) hf rfl rfl (by show (0 : Int) + _ ≤ list; omega)
  unfold upE upW upT upB
  rw [e]
  simp [isOk]
end Go.Proofs.Ytellbmbklfbbfaa.up
