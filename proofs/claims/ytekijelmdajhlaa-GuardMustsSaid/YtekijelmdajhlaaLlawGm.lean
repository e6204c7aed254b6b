/- GuardMusts: of rows of things that must be, the first that isn't so is told by its place, code and place in the text. -/
import Derived.Test.YtekijelmdajhlaaSz9
import Derived.Test.YtekijelmdajhlaaRows
import Derived.Test.YtekijelmdajhlaaLgmA
set_option linter.unusedSimpArgs false
set_option linter.unusedVariables false
namespace Go.Proofs.Ytekijelmdajhlaa.gd
open Go Go.Ev Go.Sy Go.RowKit Go.Proofs.Ytekijelmdajhlaa.gl Go.Proofs.Ytekijelmdajhlaa.tk
def goodM (g : GM) (l : List Bool) : Prop := (True ∧ (True ∧ (True ∧ True))) ∧ ((true = true) ∧ ((gC enB l = gC enB g.1) ∧ (Plain (gC enB l) ∧ True)))
def badM (g : GM) (l : List Bool) : Prop := (true = false) ∧ ((gC enB l = gC enB g.1) ∧ (Plain (gC enB l) ∧ True))
def noneM (g : GM) (l : List Bool) (f : Int) : Prop := br (decide (f < 0)) (goodM g l) (br ((-1 : Int) == f) (badM g l) (badM g l))
noncomputable def fndM (g : GM) (l : List Bool) (f : Int) (j : Nat) : Prop := br (decide (f < 0)) (badM g l) (br (((j : Nat) : Int) == f) (br (IntKind.i64.wrap (g.2 + ((j : Nat) : Int)) == IntKind.i64.wrap (g.2 + Int.tmod f 100) && (g.3 == g.3 && true)) (goodM g l) (badM g l)) (badM g l))
def slcM (g : GM) : Value := .slice (some (Addr.mk 0 0 none)) (List.length g.1) 1
noncomputable def stpM (g : GM) (l : List Bool) (f : Int) : Nat → Nat → Prop
  | 0, _ => noneM g l f
  | n + 1, j => br (decide ((0 : Int) ≤ ((j : Nat) : Int) ∧ ((j : Nat) : Int) < ((List.length g.1 : Nat) : Int))) (((gC enB g.1)[j]? = some (Value.bool (cellB (gC enB g.1) j))) ∧
    br (!cellB (gC enB g.1) j)
      ((slcM g = slcM g) ∧ ((Value.int .i64 ((j : Nat) : Int) = Value.int .i64 ((j : Nat) : Int)) ∧ (((gC enB g.1)[j]? = some (Value.bool (cellB (gC enB g.1) j))) ∧ ((Value.bool (cellB (gC enB g.1) j) = Value.bool (cellB (gC enB g.1) j)) ∧ ((Value.int .i64 g.2 = Value.int .i64 g.2) ∧ ((Value.int .i64 ((j : Nat) : Int) = Value.int .i64 ((j : Nat) : Int)) ∧ ((Value.int .i64 g.3 = Value.int .i64 g.3) ∧
        ((Value.agg (Array.mk [Value.int .i64 (IntKind.i64.wrap (g.2 + ((j : Nat) : Int))), Value.int .i64 g.3]) = Value.agg (Array.mk [Value.int .i64 (IntKind.i64.wrap (g.2 + ((j : Nat) : Int))), Value.int .i64 g.3])) ∧ fndM g l f j))))))))
      ((slcM g = slcM g) ∧ ((Value.int .i64 ((j : Nat) : Int) = Value.int .i64 ((j : Nat) : Int)) ∧ (((gC enB g.1)[j]? = some (Value.bool (cellB (gC enB g.1) j))) ∧ ((Value.bool (cellB (gC enB g.1) j) = Value.bool (cellB (gC enB g.1) j)) ∧ ((Value.int .i64 g.2 = Value.int .i64 g.2) ∧ ((Value.int .i64 ((j : Nat) : Int) = Value.int .i64 ((j : Nat) : Int)) ∧ ((Value.int .i64 g.3 = Value.int .i64 g.3) ∧ stpM g l f n (j + 1))))))))) False
noncomputable def allM (g : GM) (l : List Bool) : List Nat → Prop
  | [] => True
  | [N] => ∀ f, QxM g N f → stpM g l f N 0
  | N :: r => ∀ side : Bool, br side (∀ f, QxM g N f → stpM g l f N 0) (allM g l r)
noncomputable def cMm (l : List Bool) (c a : Int) (Ns : List Nat) : Prop := ∃ g : GM, ((0 : Nat) = 0) ∧ (((0 : Nat) = 0) ∧ (((0 : Nat) = 0) ∧ (((-1 : Int) = -1) ∧ (((0 : Nat) = 0) ∧ ((gC enB g.1 = gC enB l) ∧ (Plain (gC enB g.1) ∧ ((g.2 = c) ∧ ((g.3 = a) ∧ (((0 : Nat) = 0) ∧ ((List.length g.1 = List.length l) ∧ (((0 : Int) = 0) ∧ allM g l Ns)))))))))))
theorem M_vc (l : List Bool) (c a : Int) : mcall EtGm (mGm [0, 1, 2, 3, 4, 5, 6, 7, 8, 9, 10, 11, 12, 13, 14, 15, 16, 17, 18, 19, 20]) 600 8 [.slice (some ⟨0, 0, none⟩) l.length 1, .int .i64 c, .int .i64 a] ⟨mkR (nums 0 [gRo enB l]), 1⟩ (retIs 1 (.bool true) [gRo enB l]) = cMm l c a [0, 1, 2, 3, 4, 5, 6, 7, 8, 9, 10, 11, 12, 13, 14, 15, 16, 17, 18, 19, 20] := by kernel_rfl
theorem nz_iff (p : Prop) : ∀ n, nz n p = p
  | 0 => rfl
  | n + 1 => by show ((0 : Nat) = 0 ∧ nz n p) = p; rw [nz_iff p n]; simp
theorem iz_iff (p : Prop) : ∀ n k, iz k n p = p
  | 0, _ => rfl
  | n + 1, k => by show ((((k : Nat) : Int) = ((k : Nat) : Int)) ∧ iz (k + 1) n p) = p; rw [iz_iff p n]; simp
theorem nx_of {g : GM} {i : Nat} {Q : Int → Prop} {v : Int} (h : Q v) : nxM g i Q v := by
  refine ⟨v, h, ?_⟩
  simp only [nz_iff, iz_iff, true_and, and_true]
  exact bPl _
theorem ex_of {g : GM} {f : Int} {Qx : Prop} (h : Qx) : ∀ i, exM g f Qx i
  | 0 => by unfold exM; refine ⟨h, ?_⟩; simp only [nz_iff, iz_iff, true_and, and_true]; exact bPl _
  | i + 1 => by unfold exM; refine ⟨h, ?_⟩; simp only [nz_iff, iz_iff, true_and, and_true]; exact bPl _
theorem fs_none (l : List Bool) : ∀ n, (∀ i, i < n → l.getD i true = true) → fsF l n = -1
  | 0, _ => rfl
  | n + 1, h => by
    unfold fsF
    rw [if_neg (by rw [h n (by omega)]; simp)]
    exact fs_none l n fun i hi => h i (by omega)
theorem fs_at (l : List Bool) (j : Nat) (h1 : ∀ i, i < j → l.getD i true = true) (h2 : l.getD j true = false) : ∀ n, j < n → fsF l n = j
  | 0, h => by omega
  | n + 1, h => by
    unfold fsF
    by_cases e : j = n
    · subst e
      rw [if_pos ⟨by rw [fs_none l j h1]; omega, h2⟩]
    · rw [fs_at l j h1 h2 n (by omega), if_neg (by omega)]
theorem r_all : ∀ i, i ≤ 20 → ∀ g f Q Qx, mlM g i f Q Qx = cdM g i f Q Qx
  | 0, _ => r0_vc
  | 1, _ => r1_vc
  | 2, _ => r2_vc
  | 3, _ => r3_vc
  | 4, _ => r4_vc
  | 5, _ => r5_vc
  | 6, _ => r6_vc
  | 7, _ => r7_vc
  | 8, _ => r8_vc
  | 9, _ => r9_vc
  | 10, _ => r10_vc
  | 11, _ => r11_vc
  | 12, _ => r12_vc
  | 13, _ => r13_vc
  | 14, _ => r14_vc
  | 15, _ => r15_vc
  | 16, _ => r16_vc
  | 17, _ => r17_vc
  | 18, _ => r18_vc
  | 19, _ => r19_vc
  | 20, _ => r20_vc
  | n + 21, h => absurd h (by omega)
def InvM (g : GM) (s : Nat × Int) : Prop := s.1 ≤ 20 ∧ s.1 ≤ g.l.length ∧ s.2 = fsF g.l s.1
theorem rnd (g : GM) (s : Nat × Int) (hi : InvM g s) : mlM g s.1 s.2 (fun y => InvM g (s.1 + 1, y)) (QxM g s.1 s.2) := by
  obtain ⟨i, f⟩ := s
  obtain ⟨h1, h2, h3⟩ := hi
  simp only at h1 h2 h3
  refine (r_all i h1 g f _ _).mpr ?_
  unfold cdM
  have hQ : ¬ (i < g.l.length ∧ i < 20) → QxM g i f := fun h => ⟨h1, h2, fun _ => by omega, h3⟩
  refine br_if (fun h => ?_) (fun h => ex_of (hQ (by have : ¬ ((i : Nat) : Int) < ((g.l.length : Nat) : Int) := h; omega)) i)
  have hl : i < g.l.length := by have : ((i : Nat) : Int) < ((g.l.length : Nat) : Int) := h; omega
  by_cases h20 : i < 20
  · have e : Nat.blt i 20 = true := by unfold Nat.blt; rw [Nat.ble_eq]; omega
    rw [e]
    obtain ⟨b1, b2⟩ := bGet g.l i hl
    have gd : g.l.getD i true = g.l[i] := by simp [List.getD, List.getElem?_eq_getElem hl]
    refine br_dec (by omega) ⟨by rw [b1, b2], ?_⟩
    rw [b2]
    have Y : ∀ y, y = fsF g.l (i + 1) → InvM g (i + 1, y) := fun y hy => ⟨by simp only; omega, by simp only; omega, hy⟩
    cases hb : g.l[i] with
    | true => exact nx_of (Y _ (by unfold fsF; rw [gd, hb, if_neg (by simp)]; exact h3))
    | false =>
      refine br_if (fun hf => nx_of (Y _ (by unfold fsF; rw [gd, hb, if_pos ⟨by omega, rfl⟩]))) (fun hf => nx_of (Y _ (by unfold fsF; rw [if_neg (by omega)]; exact h3)))
  · have e : Nat.blt i 20 = false := by unfold Nat.blt; rw [← Bool.not_eq_true, Nat.ble_eq]; omega
    rw [e]
    exact ex_of (hQ (by omega)) i
theorem kL_mem {g : GM} {K : KO} : ∀ Ns, kL g K Ns → ∀ N ∈ Ns, ∀ f, QxM g N f → K (.exit 0, ⟨mkOv (slX N f), 79, []⟩, none, ⟨mkR (rlX g N), 40⟩)
  | [], _, _, h => by simp at h
  | [N], hk, M, h => by rw [List.mem_singleton] at h; subst h; exact hk
  | N :: N2 :: l, hk, M, h => by
    rcases List.mem_cons.1 h with rfl | h
    · exact hk true
    · exact kL_mem (N2 :: l) (hk false) M h
noncomputable def wsM (g : GM) : List (Gate (Nat × Int)) := [⟨.exit 0, fun y => QxM g y.1 y.2, fun y => slX y.1 y.2, fun y => rlX g y.1, 40⟩]
theorem gm_piece : PieceOk EtGm 1 (8, pGm, specGm [0, 1, 2, 3, 4, 5, 6, 7, 8, 9, 10, 11, 12, 13, 14, 15, 16, 17, 18, 19, 20]) := by
  intro fn c0 c hf hb hc fr u h K hs
  obtain ⟨body, rfl, hbody⟩ := loop_of (P := Try.prog) (f := 8) (p := pGm) (by kernel_rfl) hf hb hc
  obtain ⟨g, h2⟩ := hs
  intro B μ0 F0 w0 cs0 kd μ a cs w tm g1 g2 g3 g4
  obtain ⟨⟨μ', tm', q1, q2⟩, h3⟩ := atSt_under h2 g1 g2 g3 g4
  have hK : goesOn 79 (wsM g) K := fun y hy => kL_mem _ h3 y.1 (by
    have := hy.1
    have : y.1 < 21 := by omega
    have e : [0, 1, 2, 3, 4, 5, 6, 7, 8, 9, 10, 11, 12, 13, 14, 15, 16, 17, 18, 19, 20] = List.range 21 := rfl
    rw [e]; exact List.mem_range.2 this) y.2 hy
  exact loop_okM (E := EtGm) (n0 := 1) (n' := 40) (fun s : Nat × Int => slM s.1 s.2) (fun s => rlM g s.1) (InvM g) (fun s => 21 - s.1) hK (fun s hi => by
    refine OkM.mono (fun x hx => ?_) (okM_of_mev mixed (calls_envT tGm_ok) (lok_envT _ _) (M := noM) lm_none hf hb hbody (rnd g s hi))
    obtain ⟨e, fr', u', h'⟩ := x
    cases e with
    | normal =>
      obtain ⟨y, hy, ha⟩ := hx
      exact ⟨(s.1 + 1, y), hy, by have := hi.1; simp only; omega, ha⟩
    | exit j =>
      simp only [roundJ] at hx
      cases hj : Nat.beq j 0 with
      | false => rw [hj] at hx; exact hx.elim
      | true =>
        rw [hj] at hx
        have := Nat.eq_of_beq_eq_true hj
        subst this
        exact ⟨(s.1, s.2), hx.1, hx.2⟩
    | ret => exact hx.elim
    | panic ch => exact hx.elim) 21 (0, -1) (by simp) ⟨by simp, by simp, rfl⟩ false B μ0 F0 w0 cs0 kd μ' a cs w tm' g1 g2 q1 q2
theorem stp_ok (g : GM) (f : Int) (N : Nat) (hq : QxM g N f) : ∀ n j, j + n = N → (∀ i, i < j → g.l.getD i true = true) → stpM g g.l f n j
  | 0, j, e, h => by
    have ef : f = -1 := by rw [hq.2.2.2]; exact fs_none _ _ fun i hi => h i (by omega)
    unfold stpM noneM goodM
    exact br_dec (by omega) ⟨⟨trivial, trivial, trivial, trivial⟩, rfl, rfl, bPl _, trivial⟩
  | n + 1, j, e, h => by
    have hl : j < g.l.length := by have := hq.2.1; omega
    obtain ⟨b1, b2⟩ := bGet g.l j hl
    have gd : g.l.getD j true = g.l[j] := by simp [List.getD, List.getElem?_eq_getElem hl]
    unfold stpM
    refine br_dec (by have : g.1.length = g.l.length := rfl; omega) ⟨by rw [show g.1 = g.l from rfl, b1, b2], ?_⟩
    have hb2 : cellB (gC enB g.1) j = g.l[j] := b2
    have hb1 : (gC enB g.1)[j]? = some (.bool g.l[j]) := b1
    rw [hb2, hb1]
    cases hb : g.l[j] with
    | true =>
      refine br_nb rfl ⟨rfl, rfl, rfl, rfl, rfl, rfl, rfl, stp_ok g f N hq n (j + 1) (by omega) fun i hi => ?_⟩
      by_cases e2 : i = j
      · subst e2; rw [gd, hb]
      · exact h i (by omega)
    | false =>
      have ef : f = (j : Int) := by rw [hq.2.2.2]; exact fs_at _ j h (by rw [gd, hb]) N (by omega)
      have h20 := hq.1
      refine br_b rfl ⟨rfl, rfl, rfl, rfl, rfl, rfl, rfl, rfl, ?_⟩
      unfold fndM goodM
      subst ef
      have et : Int.tmod (j : Int) 100 = (j : Int) := by rw [Int.tmod_eq_emod_of_nonneg (by omega)]; omega
      rw [et]
      refine br_nd (by omega) (br_b (by simp) (br_b (by simp) ⟨⟨trivial, trivial, trivial, trivial⟩, rfl, rfl, bPl _, trivial⟩))
theorem all_ok (g : GM) : ∀ Ns, allM g g.l Ns
  | [] => trivial
  | [N] => fun f hq => stp_ok g f N hq N 0 (by omega) fun i hi => by omega
  | N :: N2 :: r => fun side => br_side (fun f hq => stp_ok g f N hq N 0 (by omega) fun i hi => by omega) (all_ok g (N2 :: r)) side
theorem gm_law (l : List Bool) (c a : Int) (_ : l.length ≤ maxLen) (_ : I64 c) (_ : I64 a) : Con Try.prog 8 [.slice (some ⟨0, 0, none⟩) l.length 1, .int .i64 c, .int .i64 a] [gRo enB l] (.bool true) [gRo enB l] := by
  refine con_vc (E := EtGm) mixed (calls_envT tGm_ok) (lok_envT _ _) (M := mGm [0, 1, 2, 3, 4, 5, 6, 7, 8, 9, 10, 11, 12, 13, 14, 15, 16, 17, 18, 19, 20]) (lm_one gm_piece) (M_vc l c a) ?_
  exact ⟨⟨l, c, a⟩, rfl, rfl, rfl, rfl, rfl, rfl, bPl _, rfl, rfl, rfl, rfl, rfl, all_ok ⟨l, c, a⟩ [0, 1, 2, 3, 4, 5, 6, 7, 8, 9, 10, 11, 12, 13, 14, 15, 16, 17, 18, 19, 20]⟩
end Go.Proofs.Ytekijelmdajhlaa.gd
