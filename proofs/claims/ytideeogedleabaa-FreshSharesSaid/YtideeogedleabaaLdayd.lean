/- Dates: what they are, and back. -/
import Derived.Test.YtideeogedleabaaSz9
import Derived.Test.YtideeogedleabaaRows
import Derived.Test.YtideeogedleabaaLk9
set_option maxRecDepth 20000
set_option linter.unusedSimpArgs false
set_option linter.unusedVariables false
namespace Go.Proofs.Ytideeogedleabaa.tk
open Go Go.Ev Go.Sy Go.RowKit Go.Proofs.Ytideeogedleabaa.gl
def dgc (n : Nat) : UInt8 := UInt8.ofNat (48 + n % 10)
def dg2 (n : Nat) : List UInt8 := [dgc (n / 10), dgc n]
def dg4 (n : Nat) : List UInt8 := [dgc (n / 1000), dgc (n / 100), dgc (n / 10), dgc n]
def lenN (y m : Nat) : Nat := if m = 1 then (if y % 4 = 0 then 29 else 28) else if m = 3 ∨ m = 5 ∨ m = 8 ∨ m = 10 then 30 else 31
def cumN (y : Nat) : Nat → Nat
  | 0 => 0
  | m + 1 => cumN y m + lenN y m
def befN (y m : Nat) : Nat := (y - 1970) * 365 + (y - 1970 + 1) / 4 + cumN y m
def wkL : List UInt8 := [84, 104, 117, 70, 114, 105, 83, 97, 116, 83, 117, 110, 77, 111, 110, 84, 117, 101, 87, 101, 100]
def moL : List UInt8 := [74, 97, 110, 70, 101, 98, 77, 97, 114, 65, 112, 114, 77, 97, 121, 74, 117, 110, 74, 117, 108, 65, 117, 103, 83, 101, 112, 79, 99, 116, 78, 111, 118, 68, 101, 99]
def fmL : List UInt8 := [95, 95, 95, 44, 32, 48, 48, 32, 95, 95, 95, 32, 48, 48, 48, 48, 32, 48, 48, 58, 48, 48, 58, 48, 48, 32, 71, 77, 84]
def nm3 (l : List UInt8) (i : Nat) : List UInt8 := (l.drop (3 * i)).take 3
def yrN (d : Nat) : Nat := 1970 + (4 * d + 2) / 1461
def moF (y d : Nat) : Nat → Nat
  | 0 => 0
  | k + 1 => if befN y (k + 1) ≤ d then k + 1 else moF y d k
def moN (d : Nat) : Nat := moF (yrN d) d 11
def shP (d r : Nat) : List UInt8 := nm3 wkL (d % 7) ++ [44, 32] ++ dg2 (d - befN (yrN d) (moN d) + 1) ++ [32] ++ nm3 moL (moN d) ++ [32] ++ dg4 (yrN d) ++ [32] ++ dg2 (r / 3600) ++ [58] ++ dg2 (r / 60 % 60) ++ [58] ++ dg2 (r % 60) ++ [32, 71, 77, 84]
def shL (n : Nat) : List UInt8 := shP (n / 86400) (n % 86400)
def sl (l : List UInt8) (a b : Nat) : List UInt8 := (l.drop a).take (b - a)
def dv (c : UInt8) : Nat := (c.toNat + 208) % 256
def numL (l : List UInt8) : Nat := l.foldl (fun n c => n * 10 + dv c) 0
def fndO (s : List UInt8) : Option Nat := (List.range 12).find? fun i => decide (nm3 moL i = s)
def okB (f c : UInt8) : Bool := f == 95 || (f == 48 && (decide (48 ≤ c.toNat) && decide (c.toNat ≤ 57))) || (f != 48 && c == f)
def fmd (l : List UInt8) : Bool := decide (l.length = 29) && (List.range 29).all fun j => okB (fmL.getD j 0) (l.getD j 0)
def dayOf (y m d : Nat) : Nat := befN y m + d - 1
def rdQ (l : List UInt8) (m : Nat) : Option Nat :=
  if numL (sl l 12 16) < 1970 ∨ 2037 < numL (sl l 12 16) then none
  else if numL (sl l 5 7) < 1 ∨ lenN (numL (sl l 12 16)) m < numL (sl l 5 7) then none
  else if 23 < numL (sl l 17 19) ∨ 59 < numL (sl l 20 22) ∨ 59 < numL (sl l 23 25) then none
  else if nm3 wkL (dayOf (numL (sl l 12 16)) m (numL (sl l 5 7)) % 7) ≠ sl l 0 3 then none
  else some (dayOf (numL (sl l 12 16)) m (numL (sl l 5 7)) * 86400 + (numL (sl l 17 19) * 60 + numL (sl l 20 22)) * 60 + numL (sl l 23 25))
def rdL (l : List UInt8) : Option Nat := if fmd l then (fndO (sl l 8 11)).bind (rdQ l) else none
theorem dgc_nat (n : Nat) : (dgc n).toNat = 48 + n % 10 := by unfold dgc; rw [u8_toNat_ofNat (by omega)]
theorem dv_dgc (n : Nat) : dv (dgc n) = n % 10 := by unfold dv; rw [dgc_nat]; omega
theorem num2 (n : Nat) (h : n < 100) : numL (dg2 n) = n := by unfold numL dg2; simp only [List.foldl, dv_dgc]; omega
theorem num4 (n : Nat) (h : n < 10000) : numL (dg4 n) = n := by unfold numL dg4; simp only [List.foldl, dv_dgc]; omega
theorem dgc_of (c : UInt8) (n : Nat) (h1 : 48 ≤ c.toNat) (h2 : c.toNat ≤ 57) (h : n % 10 = c.toNat - 48) : dgc n = c := by
  unfold dgc; rw [h, show 48 + (c.toNat - 48) = c.toNat by omega]; simp
theorem dv_of (c : UInt8) (h1 : 48 ≤ c.toNat) (h2 : c.toNat ≤ 57) : dv c = c.toNat - 48 := by unfold dv; omega
theorem cum_mono (y : Nat) : ∀ a b : Nat, a ≤ b → cumN y a ≤ cumN y b := by
  intro a b h
  induction b with
  | zero => have : a = 0 := by omega
            subst this; exact Nat.le_refl _
  | succ b ih =>
    by_cases e : a = b + 1
    · subst e; exact Nat.le_refl _
    · have := ih (by omega); simp only [cumN]; omega
theorem len_le (y m : Nat) : 28 ≤ lenN y m ∧ lenN y m ≤ 31 := by unfold lenN; split <;> (try split) <;> omega
theorem cum12 (y : Nat) : cumN y 12 = 365 + if y % 4 = 0 then 1 else 0 := by simp [cumN, lenN]; split <;> rfl
theorem cum_le (y m : Nat) (h : m ≤ 12) : cumN y m ≤ 366 := by
  have := cum_mono y m 12 h
  rw [cum12] at this; split at this <;> omega
theorem bef_succ (y m : Nat) : befN y (m + 1) = befN y m + lenN y m := by unfold befN; simp only [cumN]; omega
theorem bef12 (y : Nat) (h : 1970 ≤ y) : befN y 12 = befN (y + 1) 0 := by
  unfold befN; rw [cum12]; simp only [cumN]
  split <;> omega
theorem bef_year (y d : Nat) (h : 1970 ≤ y) (h1 : befN y 0 ≤ d) (h2 : d < befN (y + 1) 0) : y = yrN d := by
  unfold befN at h1 h2; simp only [cumN] at h1 h2
  unfold yrN; omega
theorem year_bef (d : Nat) : befN (yrN d) 0 ≤ d ∧ d < befN (yrN d + 1) 0 ∧ 1970 ≤ yrN d := by
  unfold befN yrN; simp only [cumN]; omega
theorem moF_spec (y d : Nat) (h : befN y 0 ≤ d) : ∀ k, moF y d k ≤ k ∧ befN y (moF y d k) ≤ d ∧ (moF y d k = k ∨ d < befN y (moF y d k + 1))
  | 0 => ⟨Nat.le_refl _, h, Or.inl rfl⟩
  | k + 1 => by
    unfold moF
    by_cases e : befN y (k + 1) ≤ d
    · rw [if_pos e]; exact ⟨Nat.le_refl _, e, Or.inl rfl⟩
    · rw [if_neg e]
      obtain ⟨a, b, c⟩ := moF_spec y d h k
      refine ⟨by omega, b, Or.inr ?_⟩
      rcases c with c | c
      · rw [c]; omega
      · exact c
theorem mo_uniq (y d a b : Nat) (ha : befN y a ≤ d) (ha2 : d < befN y (a + 1)) (hb : befN y b ≤ d) (hb2 : d < befN y (b + 1)) : a = b := by
  rcases Nat.lt_trichotomy a b with h | h | h
  · have := cum_mono y (a + 1) b h
    unfold befN at *; omega
  · exact h
  · have := cum_mono y (b + 1) a h
    unfold befN at *; omega
theorem mo_spec (d : Nat) : moN d ≤ 11 ∧ befN (yrN d) (moN d) ≤ d ∧ d < befN (yrN d) (moN d + 1) := by
  obtain ⟨h1, h2, h3⟩ := year_bef d
  obtain ⟨a, b, c⟩ := moF_spec (yrN d) d h1 11
  refine ⟨a, b, ?_⟩
  rcases c with c | c
  · show d < befN (yrN d) (moF (yrN d) d 11 + 1)
    rw [c, bef12 _ h3]; exact h2
  · exact c
theorem wk3 : ∀ i < 7, ∃ a b c, nm3 wkL i = [a, b, c] := by
  intro i hi
  have : i = 0 ∨ i = 1 ∨ i = 2 ∨ i = 3 ∨ i = 4 ∨ i = 5 ∨ i = 6 := by omega
  rcases this with rfl | rfl | rfl | rfl | rfl | rfl | rfl <;> exact ⟨_, _, _, rfl⟩
theorem mo3 : ∀ i < 12, ∃ a b c, nm3 moL i = [a, b, c] := by
  intro i hi
  have : i = 0 ∨ i = 1 ∨ i = 2 ∨ i = 3 ∨ i = 4 ∨ i = 5 ∨ i = 6 ∨ i = 7 ∨ i = 8 ∨ i = 9 ∨ i = 10 ∨ i = 11 := by omega
  rcases this with rfl | rfl | rfl | rfl | rfl | rfl | rfl | rfl | rfl | rfl | rfl | rfl <;> exact ⟨_, _, _, rfl⟩
theorem fnd_mo : ∀ i < 12, fndO (nm3 moL i) = some i := by decide
theorem fnd_some {s : List UInt8} {i : Nat} (h : fndO s = some i) : i < 12 ∧ nm3 moL i = s := by
  unfold fndO at h
  have h1 := List.find?_some h
  have h2 := List.mem_of_find?_eq_some h
  exact ⟨List.mem_range.1 h2, by simpa using h1⟩
theorem fnd_first {s : List UInt8} {i : Nat} (h : i < 12) (e : nm3 moL i = s) : fndO s = some i := by rw [← e]; exact fnd_mo i h
theorem fnd_none {s : List UInt8} (h : ∀ i < 12, nm3 moL i ≠ s) : fndO s = none := by
  unfold fndO
  rw [List.find?_eq_none]
  intro i hi
  simpa using h i (List.mem_range.1 hi)
theorem shP_list (d r : Nat) : ∃ w0 w1 w2 m0 m1 m2, nm3 wkL (d % 7) = [w0, w1, w2] ∧ nm3 moL (moN d) = [m0, m1, m2] ∧
    shP d r = [w0, w1, w2, 44, 32] ++ dg2 (d - befN (yrN d) (moN d) + 1) ++ [32, m0, m1, m2, 32] ++ dg4 (yrN d) ++ [32] ++ dg2 (r / 3600) ++ [58] ++ dg2 (r / 60 % 60) ++ [58] ++ dg2 (r % 60) ++ [32, 71, 77, 84] := by
  obtain ⟨w0, w1, w2, hw⟩ := wk3 (d % 7) (by omega)
  obtain ⟨m0, m1, m2, hm⟩ := mo3 (moN d) (by have := (mo_spec d).1; omega)
  exact ⟨w0, w1, w2, m0, m1, m2, hw, hm, by unfold shP; rw [hw, hm]; rfl⟩
theorem okd (n : Nat) : okB 48 (dgc n) = true := by unfold okB; rw [dgc_nat]; simp; omega
theorem forall29 {P : Nat → Prop} (h0 : P 0) (h1 : P 1) (h2 : P 2) (h3 : P 3) (h4 : P 4) (h5 : P 5) (h6 : P 6) (h7 : P 7) (h8 : P 8) (h9 : P 9) (h10 : P 10) (h11 : P 11) (h12 : P 12) (h13 : P 13) (h14 : P 14) (h15 : P 15) (h16 : P 16) (h17 : P 17) (h18 : P 18) (h19 : P 19) (h20 : P 20) (h21 : P 21) (h22 : P 22) (h23 : P 23) (h24 : P 24) (h25 : P 25) (h26 : P 26) (h27 : P 27) (h28 : P 28) : ∀ j < 29, P j := by
  intro j hj
  have : j = 0 ∨ j = 1 ∨ j = 2 ∨ j = 3 ∨ j = 4 ∨ j = 5 ∨ j = 6 ∨ j = 7 ∨ j = 8 ∨ j = 9 ∨ j = 10 ∨ j = 11 ∨ j = 12 ∨ j = 13 ∨ j = 14 ∨ j = 15 ∨ j = 16 ∨ j = 17 ∨ j = 18 ∨ j = 19 ∨ j = 20 ∨ j = 21 ∨ j = 22 ∨ j = 23 ∨ j = 24 ∨ j = 25 ∨ j = 26 ∨ j = 27 ∨ j = 28 := by omega
  rcases this with rfl | rfl | rfl | rfl | rfl | rfl | rfl | rfl | rfl | rfl | rfl | rfl | rfl | rfl | rfl | rfl | rfl | rfl | rfl | rfl | rfl | rfl | rfl | rfl | rfl | rfl | rfl | rfl | rfl <;> assumption
theorem fmd_iff (l : List UInt8) : fmd l = true ↔ l.length = 29 ∧ ∀ j < 29, okB (fmL.getD j 0) (l.getD j 0) = true := by
  unfold fmd; rw [Bool.and_eq_true, decide_eq_true_eq, List.all_eq_true]
  exact ⟨fun h => ⟨h.1, fun j hj => h.2 j (List.mem_range.2 hj)⟩, fun h => ⟨h.1, fun j hj => h.2 j (List.mem_range.1 hj)⟩⟩
theorem fmd_of (w0 w1 w2 c5 c6 m0 m1 m2 c12 c13 c14 c15 c17 c18 c20 c21 c23 c24 : UInt8) (h5 : okB 48 c5 = true) (h6 : okB 48 c6 = true) (h12 : okB 48 c12 = true) (h13 : okB 48 c13 = true) (h14 : okB 48 c14 = true) (h15 : okB 48 c15 = true) (h17 : okB 48 c17 = true) (h18 : okB 48 c18 = true) (h20 : okB 48 c20 = true) (h21 : okB 48 c21 = true) (h23 : okB 48 c23 = true) (h24 : okB 48 c24 = true) :
    fmd [w0, w1, w2, 44, 32, c5, c6, 32, m0, m1, m2, 32, c12, c13, c14, c15, 32, c17, c18, 58, c20, c21, 58, c23, c24, 32, 71, 77, 84] = true := by
  rw [fmd_iff]
  exact ⟨rfl, forall29 rfl rfl rfl rfl rfl h5 h6 rfl rfl rfl rfl rfl h12 h13 h14 h15 rfl h17 h18 rfl h20 h21 rfl h23 h24 rfl rfl rfl rfl⟩
theorem rd_sh (n : Nat) (h : n ≤ 2145916799) : rdL (shL n) = some n := by
  unfold shL
  obtain ⟨d, hd⟩ : ∃ d, d = n / 86400 := ⟨_, rfl⟩
  obtain ⟨r, hr⟩ : ∃ r, r = n % 86400 := ⟨_, rfl⟩
  have hn : n = d * 86400 + r := by omega
  have hr2 : r < 86400 := by omega
  have hd2 : d ≤ 24836 := by omega
  rw [← hd, ← hr]
  obtain ⟨w0, w1, w2, m0, m1, m2, hw, hm, hs⟩ := shP_list d r
  obtain ⟨y1, y2, y3⟩ := year_bef d
  obtain ⟨q1, q2, q3⟩ := mo_spec d
  have hy : yrN d ≤ 2037 := by unfold yrN; omega
  rw [bef_succ] at q3
  have hl := len_le (yrN d) (moN d)
  generalize yrN d = y at *
  generalize moN d = m at *
  obtain ⟨dd, hdd⟩ : ∃ x, x = d - befN (y) (m) + 1 := ⟨_, rfl⟩
  rw [← hdd] at hs
  have e : shP d r = [w0, w1, w2, 44, 32, dgc (dd / 10), dgc dd, 32, m0, m1, m2, 32, dgc (y / 1000), dgc (y / 100), dgc (y / 10), dgc (y), 32, dgc (r / 3600 / 10), dgc (r / 3600), 58, dgc (r / 60 % 60 / 10), dgc (r / 60 % 60), 58, dgc (r % 60 / 10), dgc (r % 60), 32, 71, 77, 84] := hs
  have e1 : sl (shP d r) 12 16 = dg4 (y) := by rw [e]; rfl
  have e2 : sl (shP d r) 8 11 = nm3 moL (m) := by rw [e, hm]; rfl
  have e3 : sl (shP d r) 5 7 = dg2 dd := by rw [e]; rfl
  have e4 : sl (shP d r) 17 19 = dg2 (r / 3600) := by rw [e]; rfl
  have e5 : sl (shP d r) 20 22 = dg2 (r / 60 % 60) := by rw [e]; rfl
  have e6 : sl (shP d r) 23 25 = dg2 (r % 60) := by rw [e]; rfl
  have e7 : sl (shP d r) 0 3 = nm3 wkL (d % 7) := by rw [e, hw]; rfl
  have hf : fmd (shP d r) = true := by
    rw [e]
    exact fmd_of _ _ _ _ _ _ _ _ _ _ _ _ _ _ _ _ _ _ (okd _) (okd _) (okd _) (okd _) (okd _) (okd _) (okd _) (okd _) (okd _) (okd _) (okd _) (okd _)
  unfold rdL
  rw [if_pos hf, e2, fnd_mo _ (by omega), Option.bind_some]
  unfold rdQ
  rw [e1, e3, e4, e5, e6, e7, num4 _ (by omega), num2 _ (by omega), num2 _ (by omega), num2 _ (by omega), num2 _ (by omega)]
  have hday : dayOf (y) (m) dd = d := by unfold dayOf; omega
  rw [hday, if_neg (by omega), if_neg (by omega), if_neg (by omega), if_neg (by simp)]
  exact congrArg some (by omega)
theorem sh_rd (l : List UInt8) (k : Nat) (h : rdL l = some k) : k ≤ 2145916799 ∧ shL k = l := by
  unfold rdL at h
  by_cases hf : fmd l = true
  · rw [if_pos hf] at h
    rw [fmd_iff] at hf
    obtain ⟨h29, hok⟩ := hf
    obtain ⟨m, hm, hq⟩ := Option.bind_eq_some_iff.1 h
    obtain ⟨m1, m2⟩ := fnd_some hm
    match l, h29 with
    | [c0, c1, c2, c3, c4, c5, c6, c7, c8, c9, c10, c11, c12, c13, c14, c15, c16, c17, c18, c19, c20, c21, c22, c23, c24, c25, c26, c27, c28], _ =>
    have lit : ∀ (f c : UInt8), f ≠ 95 → f ≠ 48 → okB f c = true → c = f := fun f c a b e => by
      unfold okB at e; simpa [a, b] using e
    have dig : ∀ c : UInt8, okB 48 c = true → 48 ≤ c.toNat ∧ c.toNat ≤ 57 := fun c e => by
      unfold okB at e; simpa using e
    have k3 := lit 44 c3 (by decide) (by decide) (hok 3 (by omega))
    have k4 := lit 32 c4 (by decide) (by decide) (hok 4 (by omega))
    have k7 := lit 32 c7 (by decide) (by decide) (hok 7 (by omega))
    have k11 := lit 32 c11 (by decide) (by decide) (hok 11 (by omega))
    have k16 := lit 32 c16 (by decide) (by decide) (hok 16 (by omega))
    have k19 := lit 58 c19 (by decide) (by decide) (hok 19 (by omega))
    have k22 := lit 58 c22 (by decide) (by decide) (hok 22 (by omega))
    have k25 := lit 32 c25 (by decide) (by decide) (hok 25 (by omega))
    have k26 := lit 71 c26 (by decide) (by decide) (hok 26 (by omega))
    have k27 := lit 77 c27 (by decide) (by decide) (hok 27 (by omega))
    have k28 := lit 84 c28 (by decide) (by decide) (hok 28 (by omega))
    have g5 := dig c5 (hok 5 (by omega))
    have g6 := dig c6 (hok 6 (by omega))
    have g12 := dig c12 (hok 12 (by omega))
    have g13 := dig c13 (hok 13 (by omega))
    have g14 := dig c14 (hok 14 (by omega))
    have g15 := dig c15 (hok 15 (by omega))
    have g17 := dig c17 (hok 17 (by omega))
    have g18 := dig c18 (hok 18 (by omega))
    have g20 := dig c20 (hok 20 (by omega))
    have g21 := dig c21 (hok 21 (by omega))
    have g23 := dig c23 (hok 23 (by omega))
    have g24 := dig c24 (hok 24 (by omega))
    subst k3; subst k4; subst k7; subst k11; subst k16; subst k19; subst k22; subst k25; subst k26; subst k27; subst k28
    have two : ∀ a b : UInt8, (48 ≤ a.toNat ∧ a.toNat ≤ 57) → (48 ≤ b.toNat ∧ b.toNat ≤ 57) → numL [a, b] < 100 ∧ dg2 (numL [a, b]) = [a, b] := fun a b ha hb => by
      have e : numL [a, b] = (a.toNat - 48) * 10 + (b.toNat - 48) := by unfold numL; simp only [List.foldl, dv_of a ha.1 ha.2, dv_of b hb.1 hb.2]; omega
      rw [e]
      refine ⟨by omega, ?_⟩
      unfold dg2
      rw [dgc_of a _ ha.1 ha.2 (by omega), dgc_of b _ hb.1 hb.2 (by omega)]
    have four : ∀ a b c d : UInt8, (48 ≤ a.toNat ∧ a.toNat ≤ 57) → (48 ≤ b.toNat ∧ b.toNat ≤ 57) → (48 ≤ c.toNat ∧ c.toNat ≤ 57) → (48 ≤ d.toNat ∧ d.toNat ≤ 57) → dg4 (numL [a, b, c, d]) = [a, b, c, d] := fun a b c d ha hb hc hd => by
      have e : numL [a, b, c, d] = (((a.toNat - 48) * 10 + (b.toNat - 48)) * 10 + (c.toNat - 48)) * 10 + (d.toNat - 48) := by unfold numL; simp only [List.foldl, dv_of a ha.1 ha.2, dv_of b hb.1 hb.2, dv_of c hc.1 hc.2, dv_of d hd.1 hd.2]; omega
      rw [e]
      unfold dg4
      rw [dgc_of a _ ha.1 ha.2 (by omega), dgc_of b _ hb.1 hb.2 (by omega), dgc_of c _ hc.1 hc.2 (by omega), dgc_of d _ hd.1 hd.2 (by omega)]
    obtain ⟨t1, t2⟩ := two c5 c6 g5 g6
    obtain ⟨t3, t4⟩ := two c17 c18 g17 g18
    obtain ⟨t5, t6⟩ := two c20 c21 g20 g21
    obtain ⟨t7, t8⟩ := two c23 c24 g23 g24
    have t9 := four c12 c13 c14 c15 g12 g13 g14 g15
    unfold rdQ at hq
    simp only [sl, List.drop, List.take, Nat.reduceSub] at hq m2
    generalize numL [c12, c13, c14, c15] = y at hq t9
    generalize numL [c5, c6] = d at hq t1 t2
    generalize numL [c17, c18] = hh at hq t3 t4
    generalize numL [c20, c21] = mi at hq t5 t6
    generalize numL [c23, c24] = ss at hq t7 t8
    split at hq
    · simp at hq
    rename_i hy
    split at hq
    · simp at hq
    rename_i hd
    split at hq
    · simp at hq
    rename_i ht
    split at hq
    · simp at hq
    rename_i hw
    simp only [Option.some.injEq] at hq
    have hw : nm3 wkL (dayOf y m d % 7) = [c0, c1, c2] := by simpa using hw
    have hb0 : befN y 0 ≤ befN y m := by have := cum_mono y 0 m (by omega); unfold befN; omega
    have hb1 : befN y (m + 1) ≤ befN y 12 := by have := cum_mono y (m + 1) 12 (by omega); unfold befN; omega
    have hs := bef_succ y m
    rw [bef12 y (by omega)] at hb1
    obtain ⟨D, hD⟩ : ∃ D, D = dayOf y m d := ⟨_, rfl⟩
    have hD2 : D = befN y m + d - 1 := hD
    rw [← hD] at hq hw
    have hyr : y = yrN D := bef_year y D (by omega) (by omega) (by omega)
    have hm3 := mo_spec D
    rw [← hyr] at hm3
    have hmo : m = moN D := mo_uniq y D m (moN D) (by omega) (by omega) hm3.2.1 hm3.2.2
    have hk1 : k / 86400 = D := by omega
    have hk2 : k % 86400 = (hh * 60 + mi) * 60 + ss := by omega
    refine ⟨?_, ?_⟩
    · have : befN (y + 1) 0 ≤ 24837 := by unfold befN; simp only [cumN]; omega
      omega
    · unfold shL
      rw [hk1, hk2]
      unfold shP
      rw [← hyr, ← hmo, hw, m2, t9, show D - befN y m + 1 = d by omega, show ((hh * 60 + mi) * 60 + ss) / 3600 = hh by omega, show ((hh * 60 + mi) * 60 + ss) / 60 % 60 = mi by omega, show ((hh * 60 + mi) * 60 + ss) % 60 = ss by omega, t2, t4, t6, t8]
      rfl
  · rw [if_neg hf] at h; simp at h
theorem shL_len (n : Nat) : (shL n).length = 29 := by
  unfold shL
  obtain ⟨w0, w1, w2, m0, m1, m2, hw, hm, hs⟩ := shP_list (n / 86400) (n % 86400)
  rw [hs]; rfl
end Go.Proofs.Ytideeogedleabaa.tk
