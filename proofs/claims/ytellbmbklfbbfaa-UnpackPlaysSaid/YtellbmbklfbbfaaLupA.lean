/- A block's reader: numbers and texts; what is wrong is a panic. -/
import Derived.Test.YtellbmbklfbbfaaSz9
import Derived.Test.YtellbmbklfbbfaaRows
import Derived.Test.YtellbmbklfbbfaaLs3gp
import Derived.Test.YtellbmbklfbbfaaLhfD7
import Derived.Test.YtellbmbklfbbfaaLtbG
set_option maxRecDepth 20000
set_option linter.unusedSimpArgs false
set_option linter.unusedVariables false
namespace Go.Proofs.Ytellbmbklfbbfaa.up
open Go Go.Ev Go.Sy Go.RowKit Go.Proofs.Ytellbmbklfbbfaa.gl Go.Proofs.Ytellbmbklfbbfaa.tk Go.Proofs.Ytellbmbklfbbfaa.hf Go.Proofs.Ytellbmbklfbbfaa.s3 Go.Proofs.Ytellbmbklfbbfaa.tb
theorem sl_ex {α : Type} (f : α) : ∃ g : α, g = f := ⟨f, rfl⟩
noncomputable def sealV {α : Type} (f : α) : α := Classical.choose (sl_ex f)
theorem sealV_eq {α : Type} (f : α) : sealV f = f := Classical.choose_spec (sl_ex f)
structure Wr where
  f : Fl
  h : Int
def enW (w : Wr) : List Value := [.string (bs w.f.n), .string (bs w.f.v), .int .i64 w.h]
structure Rs (α : Type) where
  e : Nat
  p : Nat
  v : α
def mkE (ok : Bool) (x : Value) (e a : Int) : Value := .tuple ⟨[.nilFunc, .bool ok, x, .int .i64 66, .int .i64 e, .int .i64 a]⟩
def nuR (b : List UInt8) (i n : Nat) : Rs Nat := ⟨(getOut b i n).2.2, if (getOut b i n).2.2 = 0 then (getOut b i n).2.1 else i, (getOut b i n).1⟩
def isOk (n : Nat) : Bool := decide (n = 0)
noncomputable def nuB : Row → Int → Int → Bool := sealV fun r i n => isOk (nuR (dB r) i.toNat n.toNat).e
noncomputable def nuV : Row → Int → Int → Int := sealV fun r i n => ((nuR (dB r) i.toNat n.toNat).v : Nat)
noncomputable def nuE : Row → Int → Int → Int := sealV fun r i n => ((nuR (dB r) i.toNat n.toNat).e : Nat)
noncomputable def nuA : Row → Int → Int → Int := sealV fun r i n => ((nuR (dB r) i.toNat n.toNat).p : Nat)
def IsAt (r : Row) (m : Nat) (i : Int) : Prop := ∃ b : List UInt8, r = bRo b ∧ m = b.length ∧ b.length ≤ 1048576 ∧ 0 ≤ i ∧ i ≤ b.length
def IsN (n : Int) : Prop := 1 ≤ n ∧ n ≤ 8
noncomputable def gt1 : Row → Int → Int → Int := sealV fun r i n => ((getOut (dB r) i n).1 : Nat)
noncomputable def gt2 : Row → Int → Int → Int := sealV fun r i n => ((getOut (dB r) i n).2.1 : Nat)
noncomputable def gt3 : Row → Int → Int → Int := sealV fun r i n => ((getOut (dB r) i n).2.2 : Nat)
noncomputable def eGtP : EntM := entC 44 fun a r => match a, r with
  | [.slice (some ⟨0, 0, none⟩) m 1, .int .i64 i, .int .i64 n], [r0] => some (IsB r0 m ∧ m ≤ maxLen, .tuple #[.int .i64 (gt1 r0 i n), .int .i64 (gt2 r0 i n), .int .i64 (gt3 r0 i n)], [])
  | _, _ => none
noncomputable def deT : Row → ByteArray := sealV fun r => bs (decT (dB r))
noncomputable def deE : Row → Int := sealV fun r => decE (dB r)
noncomputable def eDeP : EntM := entC 52 fun a r => match a, r with
  | [.slice (some ⟨0, 0, none⟩) m 1], [r0] => some (IsB r0 m ∧ m ≤ 1048576, .tuple #[.string (deT r0), .int .i64 (deE r0)], [])
  | _, _ => none
def rd0 (m : Nat) (i : Int) (w : Nat) (sum sz : Int) (r : Nat) : Row := ⟨[.pointer (some ⟨1, 0, none⟩), .slice (some ⟨2, 0, none⟩) m 1, .int .i64 i, .slice (some ⟨r, 0, none⟩) w 3, .int .i64 sum, .int .i64 sz], false, .cells false⟩
def rd1 (top list : Int) (bad : Bool) (r : Nat) : Row := ⟨[.pointer (some ⟨r, 0, none⟩), .int .i64 top, .int .i64 list, .bool bad], false, .cells false⟩
def rd4 (n : Nat) (s m : Int) (r : Nat) : Row := ⟨[.slice (some ⟨r, 0, none⟩) n 2, .int .i64 s, .int .i64 m], false, .cells false⟩
noncomputable def rdL (b : List UInt8) (i : Int) (W : List Wr) (sum sz top list : Int) (bad : Bool) (n : Nat) (s m : Int) (F : List Fl) : List Row := [rd0 b.length i W.length sum sz 3, rd1 top list bad 4, bRo b, gOwn enW W, rd4 n s m 5, gOwn enF F]
noncomputable def tNu : List EntM := [eGtP]
noncomputable abbrev EtNu : Env := envT Try.prog tNu
theorem Nu_vc (b : List UInt8) (i n : Int) (W : List Wr) (sum sz top list : Int) (bad : Bool) (k : Nat) (s m : Int) (F : List Fl) (ok : Bool) (v e a : Int) : mcall EtNu noM 60 33 [.pointer (some ⟨0, 0, none⟩), .int .i64 n] ⟨mkR (nums 0 (rdL b i W sum sz top list bad k s m F)), 6⟩ (retIsM 6 (mkE ok (.int .i64 v) e i) 6 [(0, rd0 b.length a W.length sum sz 3), (1, rd1 top list bad 4), (2, bRo b), (3, gOwn enW W), (4, rd4 k s m 5), (5, gOwn enF F)]) =
  (((((0 + List.length b * 1 <= List.length (bCells b) /\ Plain (List.take (List.length b * 1) (List.drop 0 (bCells b)))) /\ (True /\ (True /\ True))) /\ ((True /\ True) /\
  (True /\ (IsB (Row.mk (List.take (List.length b * 1) (List.drop 0 (bCells b))) true (Ob.cells true)) (List.length b) /\ List.length b <= 9223372036854775807))))) /\
  ((Value.slice (some (Addr.mk 2 0 none)) (List.length b) 1 = Value.slice (some (Addr.mk 2 0 none)) (List.length b) 1) /\ ((Value.int IntKind.i64 i = Value.int IntKind.i64
  i) /\ (br (!gt3 (Row.mk (List.take (List.length b * 1) (List.drop 0 (bCells b))) true (Ob.cells true)) i n == (0 : Int)) ((ok = false) /\ (((66 = 66 /\ (e = gt3 (Row.mk
  (List.take (List.length b * 1) (List.drop 0 (bCells b))) true (Ob.cells true)) i n /\ i = i))) /\ ((0 = 0) /\ ((0 = 0) /\ ((List.length b = List.length b) /\ ((a = i) /\
  ((0 = 0) /\ ((List.length W = List.length W) /\ ((sum = sum) /\ ((sz = sz) /\ ((0 = 0) /\ ((top = top) /\ ((list = list) /\ ((bad = bad) /\ ((Eq (α := List Value) (bCells
  b) (bCells b)) /\ ((Plain (bCells b)) /\ ((Eq (α := List Value) (gC enW W) (gC enW W)) /\ ((Plain (gC enW W)) /\ ((0 = 0) /\ ((k = k) /\ ((s = s) /\ ((m = m) /\ ((Eq (α :=
  List Value) (gC enF F) (gC enF F)) /\ ((Plain (gC enF F)) /\ True)))))))))))))))))))))))) ((ok = true) /\ ((v = gt1 (Row.mk (List.take (List.length b * 1) (List.drop 0
  (bCells b))) true (Ob.cells true)) i n) /\ ((0 = 0) /\ ((0 = 0) /\ ((List.length b = List.length b) /\ ((a = gt2 (Row.mk (List.take (List.length b * 1) (List.drop 0
  (bCells b))) true (Ob.cells true)) i n) /\ ((0 = 0) /\ ((List.length W = List.length W) /\ ((sum = sum) /\ ((sz = sz) /\ ((0 = 0) /\ ((top = top) /\ ((list = list) /\
  ((bad = bad) /\ ((Eq (α := List Value) (bCells b) (bCells b)) /\ ((Plain (bCells b)) /\ ((Eq (α := List Value) (gC enW W) (gC enW W)) /\ ((Plain (gC enW W)) /\ ((0 = 0) /\
  ((k = k) /\ ((s = s) /\ ((m = m) /\ ((Eq (α := List Value) (gC enF F) (gC enF F)) /\ ((Plain (gC enF F)) /\ True)))))))))))))))))))))))))))) := by kernel_rfl
theorem eGtP_ok : EntOk Try.prog eGtP := entC_ok (by
  intro a rows p v news h hp
  split at h <;> simp only [Option.some.injEq, Prod.mk.injEq, reduceCtorEq] at h
  obtain ⟨rfl, rfl, rfl⟩ := h
  obtain ⟨⟨x, rfl, rfl⟩, hl⟩ := hp
  unfold gt1 gt2 gt3
  rw [sealV_eq, sealV_eq, sealV_eq]
  simp only [dB_ro]
  exact getP_con x _ _ hl)
theorem eDeP_ok : EntOk Try.prog eDeP := entC_ok (by
  intro a rows p v news h hp
  split at h <;> simp only [Option.some.injEq, Prod.mk.injEq, reduceCtorEq] at h
  obtain ⟨rfl, rfl, rfl⟩ := h
  obtain ⟨⟨x, rfl, rfl⟩, hl⟩ := hp
  unfold deT deE
  rw [sealV_eq, sealV_eq]
  simp only [dB_ro]
  exact De_con x hl)
theorem tNu_ok : ∀ x ∈ tNu, EntOk Try.prog x := all_cons eGtP_ok (all_nil)
theorem getL_spec (b : List UInt8) : ∀ r i v : Nat, v ≤ 2147483647 → (getL b r i v).2.2 = 0 → i < (getL b r i v).2.1 ∧ (getL b r i v).2.1 ≤ b.length ∧ (getL b r i v).1 ≤ 2147483647
  | 0, _, _, _, h => by simp [getL] at h
  | r + 1, i, v, hv, h => by
    unfold getL at h ⊢
    split at h
    · simp at h
    · split at h
      · simp at h
      · split at h
        · rename_i h1 h2 h3
          simp only [h1, h2, h3, if_true, if_false]
          omega
        · rename_i h1 h2 h3
          simp only [h1, h2, h3, if_false]
          have := getL_spec b r (i + 1) _ (by omega) h
          omega
theorem plW (l : List Wr) : Plain (gC enW l) := gC_plain (fun w => by intro v hv; simp [enW] at hv; rcases hv with rfl | rfl | rfl <;> rfl) l
theorem p2_le (n : Nat) (h : n ≤ 8) : 2 ^ n ≤ 256 := by
  have : 2 ^ n ≤ 2 ^ 8 := Nat.pow_le_pow_right (by omega) h
  omega
theorem nu_spec (b : List UInt8) (i n : Nat) (h8 : n ≤ 8) (h : (nuR b i n).e = 0) : i < (nuR b i n).p ∧ (nuR b i n).p ≤ b.length ∧ (nuR b i n).v ≤ 2147483647 := by
  have hp := p2_le n h8
  unfold nuR at h ⊢
  simp only at h ⊢
  rw [if_pos h]
  unfold getOut at h ⊢
  split at h
  · simp at h
  · split at h
    · simp at h
    · rename_i g1 g2
      rw [if_neg g1, if_neg g2]
      simp only [toNat_cast] at h ⊢
      split at h
      · rename_i g3
        rw [if_pos g3]
        simp only
        omega
      · rename_i g3
        rw [if_neg g3]
        have := getL_spec b 5 (i + 1) _ (by omega) h
        omega
theorem nu_p (b : List UInt8) (i n : Nat) (h8 : n ≤ 8) (hi : i ≤ b.length) : (nuR b i n).p ≤ b.length := by
  by_cases h : (nuR b i n).e = 0
  · exact (nu_spec b i n h8 h).2.1
  · unfold nuR at h ⊢; simp only at h ⊢; rw [if_neg h]; exact hi
theorem Nu_con (b : List UInt8) (i n : Nat) (W : List Wr) (sum sz top list : Int) (bad : Bool) (k : Nat) (s m : Int) (F : List Fl) (hb : b.length ≤ 1048576) :
    ConM Try.prog 33 [.pointer (some ⟨0, 0, none⟩), .int .i64 (n : Nat)] (rdL b (i : Nat) W sum sz top list bad k s m F) (mkE (isOk (nuR b i n).e) (.int .i64 ((nuR b i n).v : Nat)) ((nuR b i n).e : Nat) (i : Nat)) 6 [(0, rd0 b.length ((nuR b i n).p : Nat) W.length sum sz 3), (1, rd1 top list bad 4), (2, bRo b), (3, gOwn enW W), (4, rd4 k s m 5), (5, gOwn enF F)] := by
  refine conM_vc (E := EtNu) tk.mixed (calls_envT tNu_ok) (lok_envT _ _) (M := noM) lm_none (Nu_vc b i n W sum sz top list bad k s m F _ _ _ _) ?_
  have ez : List.take b.length (bCells b) = bCells b := List.take_of_length_le (by rw [bCells_len]; omega)
  have e1 : gt1 (bRo b) i n = (((getOut b i n).1 : Nat) : Int) := by unfold gt1; rw [sealV_eq, dB_ro]
  have e2 : gt2 (bRo b) i n = (((getOut b i n).2.1 : Nat) : Int) := by unfold gt2; rw [sealV_eq, dB_ro]
  have e3 : gt3 (bRo b) i n = (((getOut b i n).2.2 : Nat) : Int) := by unfold gt3; rw [sealV_eq, dB_ro]
  have hO : (({ cells := bCells b, ro := true, ob := Ob.cells true }) : Row) = bRo b := rfl
  simp only [ofNat_eq, toNat_cast, Nat.zero_add, Nat.add_zero, Nat.mul_one, List.drop_zero, bCells_len, bCells_drop, bCells_take, bCells_app, bCells_one, bCells_plain, List.length_replicate, List.length_append, List.length_take, List.length_drop, List.take_length, and_true, true_and, and_self, decide_true, List.length_nil, List.length_cons, Nat.sub_zero, dB_mk, dB_ro, List.take_zero, Nat.mul_one, List.drop_zero, ez, hO, e1, e2, e3, bCells_len, Nat.zero_add]
  refine ⟨⟨Nat.le_refl _, ⟨⟨b, rfl, rfl⟩, by omega⟩⟩, ?_⟩
  have pb := bCells_plain b
  have pw := plW W
  have pf := fPl F
  by_cases h : (getOut b i n).2.2 = 0
  · have e : nuR b i n = ⟨0, (getOut b i n).2.1, (getOut b i n).1⟩ := by unfold nuR; rw [if_pos h, h]
    rw [e, h]
    simp [isOk, pb, pw, pf, br]
  · have e : nuR b i n = ⟨(getOut b i n).2.2, i, (getOut b i n).1⟩ := by unfold nuR; rw [if_neg h]
    rw [e]
    simp [isOk, pb, pw, pf, br, h]
end Go.Proofs.Ytellbmbklfbbfaa.up
