/- Kinds that are none; and the line, of any step. -/
import Derived.Test.YtnbfhihibgdgpaaGreatDoorSz9
import Derived.Test.YtnbfhihibgdgpaaGreatDoorRows
import Derived.Test.YtnbfhihibgdgpaaGreatDoorLslG
set_option maxRecDepth 20000
set_option linter.unusedSimpArgs false
set_option linter.unusedVariables false
namespace Go.Proofs.YtnbfhihibgdgpaaGreatDoor.sl
open Go Go.Ev Go.Sy Go.RowKit Go.Proofs.YtnbfhihibgdgpaaGreatDoor.gl Go.Proofs.YtnbfhihibgdgpaaGreatDoor.tk Go.Proofs.YtnbfhihibgdgpaaGreatDoor.it Go.Proofs.YtnbfhihibgdgpaaGreatDoor.sn
theorem La_vc (g : GS) (v : ByteArray) : mcall EtLi noM 200 6 [.agg ⟨stpC { g with k := 0 }⟩] ⟨mkR (nums 0 [gRo enR g.l]), 1⟩ (retIs 1 (.string v) [gRo enR g.l]) =
  ((AllB (List.take 0 (List.drop 0 []))) /\ ((v = ByteArray.mk (List.toArray (List.map bOf (List.take 0 (List.drop 0 []))))) /\ ((Eq (α := List Value) (gC enR g.5) (gC enR
  g.5)) /\ ((Plain (gC enR g.5)) /\ True)))) := by kernel_rfl
theorem Ra_vc (g : GS) (v : ByteArray) : mcall EtRg noM 200 11 [.agg ⟨stpC { g with k := 0 }⟩] ⟨mkR (nums 0 [gRo enR g.l]), 1⟩ (retIs 1 (.string v) [gRo enR g.l]) =
  ((v = ByteArray.mk #[]) /\ ((Eq (α := List Value) (gC enR g.5) (gC enR g.5)) /\ ((Plain (gC enR g.5)) /\ True))) := by kernel_rfl
theorem Lb_vc (g : GS) (n : Nat) (v : ByteArray) : mcall EtLi noM 200 6 [.agg ⟨stpC { g with k := .negSucc n }⟩] ⟨mkR (nums 0 [gRo enR g.l]), 1⟩ (retIs 1 (.string v) [gRo enR g.l]) =
  ((AllB (List.take 0 (List.drop 0 []))) /\ ((v = ByteArray.mk (List.toArray (List.map bOf (List.take 0 (List.drop 0 []))))) /\ ((Eq (α := List Value) (gC enR g.5) (gC enR
  g.5)) /\ ((Plain (gC enR g.5)) /\ True)))) := by kernel_rfl
theorem Rb_vc (g : GS) (n : Nat) (v : ByteArray) : mcall EtRg noM 200 11 [.agg ⟨stpC { g with k := .negSucc n }⟩] ⟨mkR (nums 0 [gRo enR g.l]), 1⟩ (retIs 1 (.string v) [gRo enR g.l]) =
  ((v = ByteArray.mk #[]) /\ ((Eq (α := List Value) (gC enR g.5) (gC enR g.5)) /\ ((Plain (gC enR g.5)) /\ True))) := by kernel_rfl
theorem Lc_vc (g : GS) (n : Nat) (v : ByteArray) : mcall EtLi noM 200 6 [.agg ⟨stpC { g with k := .ofNat (n + 15) }⟩] ⟨mkR (nums 0 [gRo enR g.l]), 1⟩ (retIs 1 (.string v) [gRo enR g.l]) =
  ((AllB (List.take 0 (List.drop 0 []))) /\ ((v = ByteArray.mk (List.toArray (List.map bOf (List.take 0 (List.drop 0 []))))) /\ ((Eq (α := List Value) (gC enR g.5) (gC enR
  g.5)) /\ ((Plain (gC enR g.5)) /\ True)))) := by kernel_rfl
theorem Rc_vc (g : GS) (n : Nat) (v : ByteArray) : mcall EtRg noM 200 11 [.agg ⟨stpC { g with k := .ofNat (n + 15) }⟩] ⟨mkR (nums 0 [gRo enR g.l]), 1⟩ (retIs 1 (.string v) [gRo enR g.l]) =
  ((v = ByteArray.mk #[]) /\ ((Eq (α := List Value) (gC enR g.5) (gC enR g.5)) /\ ((Plain (gC enR g.5)) /\ True))) := by kernel_rfl
theorem La_con (g : GS) : Con Tryz.prog 6 [.agg ⟨stpC { g with k := 0 }⟩] [gRo enR g.l] (.string (bs [])) [gRo enR g.l] := by
  refine con_vc (E := EtLi) mixed (calls_envT tLi_ok) (lok_envT _ _) (M := noM) lm_none (La_vc g _) ?_
  simp only [ofNat_eq, toNat_cast, Nat.zero_add, Nat.add_zero, Nat.mul_one, List.drop_zero, bCells_len, bCells_drop, bCells_take, bCells_app, bCells_one, bCells_plain, List.length_replicate, List.length_append, List.length_take, List.length_drop, List.take_length, and_true, true_and, and_self, decide_true, List.length_nil, List.length_cons, Nat.sub_zero, dB_mk, dB_ro, List.take_zero]
  exact ⟨bCells_all [], rfl, rPl g.l⟩
theorem Ra_con (g : GS) : Con Tryz.prog 11 [.agg ⟨stpC { g with k := 0 }⟩] [gRo enR g.l] (.string (bs [])) [gRo enR g.l] := by
  refine con_vc (E := EtRg) mixed (calls_envT tRg_ok) (lok_envT _ _) (M := noM) lm_none (Ra_vc g _) ?_
  simp only [ofNat_eq, toNat_cast, Nat.zero_add, Nat.add_zero, Nat.mul_one, List.drop_zero, bCells_len, bCells_drop, bCells_take, bCells_app, bCells_one, bCells_plain, List.length_replicate, List.length_append, List.length_take, List.length_drop, List.take_length, and_true, true_and, and_self, decide_true, List.length_nil, List.length_cons, Nat.sub_zero, dB_mk, dB_ro, List.take_zero]
  exact ⟨rfl, rPl g.l⟩
theorem Lb_con (g : GS) (n : Nat) : Con Tryz.prog 6 [.agg ⟨stpC { g with k := .negSucc n }⟩] [gRo enR g.l] (.string (bs [])) [gRo enR g.l] := by
  refine con_vc (E := EtLi) mixed (calls_envT tLi_ok) (lok_envT _ _) (M := noM) lm_none (Lb_vc g n _) ?_
  simp only [ofNat_eq, toNat_cast, Nat.zero_add, Nat.add_zero, Nat.mul_one, List.drop_zero, bCells_len, bCells_drop, bCells_take, bCells_app, bCells_one, bCells_plain, List.length_replicate, List.length_append, List.length_take, List.length_drop, List.take_length, and_true, true_and, and_self, decide_true, List.length_nil, List.length_cons, Nat.sub_zero, dB_mk, dB_ro, List.take_zero]
  exact ⟨bCells_all [], rfl, rPl g.l⟩
theorem Rb_con (g : GS) (n : Nat) : Con Tryz.prog 11 [.agg ⟨stpC { g with k := .negSucc n }⟩] [gRo enR g.l] (.string (bs [])) [gRo enR g.l] := by
  refine con_vc (E := EtRg) mixed (calls_envT tRg_ok) (lok_envT _ _) (M := noM) lm_none (Rb_vc g n _) ?_
  simp only [ofNat_eq, toNat_cast, Nat.zero_add, Nat.add_zero, Nat.mul_one, List.drop_zero, bCells_len, bCells_drop, bCells_take, bCells_app, bCells_one, bCells_plain, List.length_replicate, List.length_append, List.length_take, List.length_drop, List.take_length, and_true, true_and, and_self, decide_true, List.length_nil, List.length_cons, Nat.sub_zero, dB_mk, dB_ro, List.take_zero]
  exact ⟨rfl, rPl g.l⟩
theorem Lc_con (g : GS) (n : Nat) : Con Tryz.prog 6 [.agg ⟨stpC { g with k := .ofNat (n + 15) }⟩] [gRo enR g.l] (.string (bs [])) [gRo enR g.l] := by
  refine con_vc (E := EtLi) mixed (calls_envT tLi_ok) (lok_envT _ _) (M := noM) lm_none (Lc_vc g n _) ?_
  simp only [ofNat_eq, toNat_cast, Nat.zero_add, Nat.add_zero, Nat.mul_one, List.drop_zero, bCells_len, bCells_drop, bCells_take, bCells_app, bCells_one, bCells_plain, List.length_replicate, List.length_append, List.length_take, List.length_drop, List.take_length, and_true, true_and, and_self, decide_true, List.length_nil, List.length_cons, Nat.sub_zero, dB_mk, dB_ro, List.take_zero]
  exact ⟨bCells_all [], rfl, rPl g.l⟩
theorem Rc_con (g : GS) (n : Nat) : Con Tryz.prog 11 [.agg ⟨stpC { g with k := .ofNat (n + 15) }⟩] [gRo enR g.l] (.string (bs [])) [gRo enR g.l] := by
  refine con_vc (E := EtRg) mixed (calls_envT tRg_ok) (lok_envT _ _) (M := noM) lm_none (Rc_vc g n _) ?_
  simp only [ofNat_eq, toNat_cast, Nat.zero_add, Nat.add_zero, Nat.mul_one, List.drop_zero, bCells_len, bCells_drop, bCells_take, bCells_app, bCells_one, bCells_plain, List.length_replicate, List.length_append, List.length_take, List.length_drop, List.take_length, and_true, true_and, and_self, decide_true, List.length_nil, List.length_cons, Nat.sub_zero, dB_mk, dB_ro, List.take_zero]
  exact ⟨rfl, rPl g.l⟩
def lineL (g : GS) : List UInt8 :=
  if g.k = 1 then li1 g else if g.k = 2 then li2 g else if g.k = 3 then li3 g else if g.k = 4 then li4 g else if g.k = 5 then li5 g else if g.k = 6 then li6 g else if g.k = 7 then li7 g else
  if g.k = 8 then li8 g else if g.k = 9 then li9 g else if g.k = 10 then li10 g else if g.k = 11 then li11 g else if g.k = 12 then li12 g else if g.k = 13 then li13 g else if g.k = 14 then li14 g else []
theorem line_no (g : GS) (h : g.k < 1 ∨ 14 < g.k) : lineL g = [] := by
  unfold lineL
  rw [if_neg (by omega), if_neg (by omega), if_neg (by omega), if_neg (by omega), if_neg (by omega), if_neg (by omega), if_neg (by omega), if_neg (by omega), if_neg (by omega), if_neg (by omega), if_neg (by omega), if_neg (by omega), if_neg (by omega), if_neg (by omega)]
theorem both_con (g : GS) (h : okH g) :
    Con Tryz.prog 6 [.agg ⟨stpC g⟩] [gRo enR g.l] (.string (bs (lineL g))) [gRo enR g.l] ∧ Con Tryz.prog 11 [.agg ⟨stpC g⟩] [gRo enR g.l] (.string (bs (lineL g))) [gRo enR g.l] := by
  obtain ⟨k, a, b, c, l, t, e⟩ := g
  by_cases h1 : k < 1 ∨ 14 < k
  · rw [line_no _ h1]
    rcases h1 with h1 | h1
    · by_cases h0 : k = 0
      · subst h0; exact ⟨La_con ⟨0, a, b, c, l, t, e⟩, Ra_con ⟨0, a, b, c, l, t, e⟩⟩
      · obtain ⟨n, rfl⟩ : ∃ n : Nat, k = Int.negSucc n := ⟨(-k - 1).toNat, by omega⟩
        exact ⟨Lb_con ⟨0, a, b, c, l, t, e⟩ n, Rb_con ⟨0, a, b, c, l, t, e⟩ n⟩
    · obtain ⟨n, rfl⟩ : ∃ n : Nat, k = Int.ofNat (n + 15) := ⟨(k - 15).toNat, by simp only [Int.ofNat_eq_natCast]; omega⟩
      exact ⟨Lc_con ⟨0, a, b, c, l, t, e⟩ n, Rc_con ⟨0, a, b, c, l, t, e⟩ n⟩
  · have hk : k = 1 ∨ k = 2 ∨ k = 3 ∨ k = 4 ∨ k = 5 ∨ k = 6 ∨ k = 7 ∨ k = 8 ∨ k = 9 ∨ k = 10 ∨ k = 11 ∨ k = 12 ∨ k = 13 ∨ k = 14 := by omega
    rcases hk with rfl | rfl | rfl | rfl | rfl | rfl | rfl | rfl | rfl | rfl | rfl | rfl | rfl | rfl
    · exact ⟨Li1_con ⟨1, a, b, c, l, t, e⟩ h.1, Rf1_con ⟨1, a, b, c, l, t, e⟩ h⟩
    · exact ⟨Li2_con ⟨2, a, b, c, l, t, e⟩ h.1, Rf2_con ⟨2, a, b, c, l, t, e⟩ h⟩
    · exact ⟨Li3_con ⟨3, a, b, c, l, t, e⟩ h.1, Rf3_con ⟨3, a, b, c, l, t, e⟩ h⟩
    · exact ⟨Li4_con ⟨4, a, b, c, l, t, e⟩ h.1, Rf4_con ⟨4, a, b, c, l, t, e⟩ h⟩
    · exact ⟨Li5_con ⟨5, a, b, c, l, t, e⟩ h.1, Rf5_con ⟨5, a, b, c, l, t, e⟩ h⟩
    · exact ⟨Li6_con ⟨6, a, b, c, l, t, e⟩ h.1, Rf6_con ⟨6, a, b, c, l, t, e⟩ h⟩
    · exact ⟨Li7_con ⟨7, a, b, c, l, t, e⟩ h.1, Rf7_con ⟨7, a, b, c, l, t, e⟩ h⟩
    · exact ⟨Li8_con ⟨8, a, b, c, l, t, e⟩ h.1, Rf8_con ⟨8, a, b, c, l, t, e⟩ h⟩
    · exact ⟨Li9_con ⟨9, a, b, c, l, t, e⟩ h.1, Rf9_con ⟨9, a, b, c, l, t, e⟩ h⟩
    · exact ⟨Li10_con ⟨10, a, b, c, l, t, e⟩ h.1, Rf10_con ⟨10, a, b, c, l, t, e⟩ h⟩
    · exact ⟨Li11_con ⟨11, a, b, c, l, t, e⟩ h.1, Rf11_con ⟨11, a, b, c, l, t, e⟩ h⟩
    · exact ⟨Li12_con ⟨12, a, b, c, l, t, e⟩ h.1, Rf12_con ⟨12, a, b, c, l, t, e⟩ h⟩
    · exact ⟨Li13_con ⟨13, a, b, c, l, t, e⟩ h.1, Rf13_con ⟨13, a, b, c, l, t, e⟩ h⟩
    · exact ⟨Li14_con ⟨14, a, b, c, l, t, e⟩ h.1, Rf14_con ⟨14, a, b, c, l, t, e⟩ h⟩
end Go.Proofs.YtnbfhihibgdgpaaGreatDoor.sl
