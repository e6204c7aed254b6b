/- GuardFirst: of rows of steps the first one that has a fault; those behind it are not played; another panic goes on. -/
import Derived.Test.YtekijelmdajhlaaSz9
import Derived.Test.YtekijelmdajhlaaRows
import Derived.Test.YtekijelmdajhlaaLgfE
set_option linter.unusedSimpArgs false
set_option linter.unusedVariables false
namespace Go.Proofs.Ytekijelmdajhlaa.gp
open Go Go.Ev Go.Sy Go.RowKit Go.Proofs.Ytekijelmdajhlaa.gl Go.Proofs.Ytekijelmdajhlaa.tk Go.Proofs.Ytekijelmdajhlaa.ic Go.Proofs.Ytekijelmdajhlaa.gm
def PG (n : Nat) (rr : List (List Ac)) : Prop := n ≤ rr.length ∧ ∀ l ∈ rr, OkR l
noncomputable def specGn (n : Nat) : Sy.Spec := specOf 1 2 130 (PG n) (fun _ => slG) (fun rr => rlG rr n) wsG
noncomputable def specG : Sy.Spec := fun fr u h K => ∃ n : Nat, n ≤ 8 ∧ specGn n fr u h K
noncomputable def mG := mOf [(5, pG, specG)]
theorem Gf_vc (rr : List (List Ac)) : mcall EFl mG 60 5 [.slice (some ⟨0, 0, none⟩) rr.length 1] ⟨mkR (nums 0 [gRo enR rr]), 1⟩ (retIs 1 (.bool true) [gRo enR rr]) =
  (br (decide (Int.ofNat (List.length rr) > (8 : Int))) (br (decide ((0 : Int) <= (↑0 : Int) /\ (↑0 : Int) <= (8 : Int) /\ (8 : Int) <= (↑(List.length rr) : Int))) (∃ n :
  Nat, ((n <= 8) /\ (∃ g : List (List Ac), ((PG n g) /\ ((0 = 0) /\ ((Eq (α := List Value) (gC enR g) (gC enR rr)) /\ ((Plain (gC enR g)) /\ ((0 = 0) /\ ((n = 8) /\ (∀ (y :
  Unit), ((True) → ((true = true) /\ ((Eq (α := List Value) (gC enR rr) (gC enR g)) /\ ((Plain (gC enR rr)) /\ True)))))))))))))) False) (∃ n : Nat, ((n <= 8) /\ (∃ g : List
  (List Ac), ((PG n g) /\ ((0 = 0) /\ ((Eq (α := List Value) (gC enR g) (gC enR rr)) /\ ((Plain (gC enR g)) /\ ((0 = 0) /\ ((n = List.length rr) /\ (∀ (y : Unit), ((True) →
  ((true = true) /\ ((Eq (α := List Value) (gC enR rr) (gC enR g)) /\ ((Plain (gC enR rr)) /\ True))))))))))))))) := by kernel_rfl
theorem Gn_all : ∀ n, n ≤ 8 → ∀ (rr : List (List Ac)), PG n rr → mlG rr n (Sy.endsIn 1 130 (wsG rr))
  | 0, _, rr, h => G0 rr h.1 h.2
  | 1, _, rr, h => G1 rr h.1 h.2
  | 2, _, rr, h => G2 rr h.1 h.2
  | 3, _, rr, h => G3 rr h.1 h.2
  | 4, _, rr, h => G4 rr h.1 h.2
  | 5, _, rr, h => G5 rr h.1 h.2
  | 6, _, rr, h => G6 rr h.1 h.2
  | 7, _, rr, h => G7 rr h.1 h.2
  | 8, _, rr, h => G8 rr h.1 h.2
  | n + 9, h, _, _ => absurd h (by omega)
theorem Gn_piece (n : Nat) (hn : n ≤ 8) : PieceOk EFl 1 (5, pG, specGn n) :=
  piece_code mixed (calls_envTd tFl_ok) (lok_envTd _ _ _) (lm_two (F_piece n) H_piece) (n := 300) (fun rr hr => Gn_all n hn rr hr)
theorem G_piece : PieceOk EFl 1 (5, pG, specG) := by
  intro fn c0 c hf hb hc fr u h K hs
  obtain ⟨n, hn, hs⟩ := hs
  exact Gn_piece n hn fn c0 c hf hb hc fr u h K hs
theorem gf_law (rr : List (List Ac)) (hl : rr.length ≤ maxLen) (ha : ∀ l ∈ rr, OkR l) : Con Try.prog 5 [.slice (some ⟨0, 0, none⟩) rr.length 1] [gRo enR rr] (.bool true) [gRo enR rr] := by
  refine con_vc (E := EFl) mixed (calls_envTd tFl_ok) (lok_envTd _ _ _) (M := mG) (lm_one G_piece) (Gf_vc rr) ?_
  have tt : ∀ (y : Unit), True → True := fun _ _ => trivial
  simp only [ofNat_eq, toNat_cast, Nat.zero_add, Nat.add_zero, Nat.mul_one, List.drop_zero, bCells_len, bCells_drop, bCells_take, bCells_app, bCells_one, bCells_plain, List.length_replicate, List.length_append, List.length_take, List.length_drop, List.take_length, and_true, true_and, and_self, decide_true, List.length_nil, List.length_cons, Nat.sub_zero, dB_mk, dB_ro, List.take_zero, rPl]
  refine br_if (fun h => br_dec (by omega) ⟨8, Nat.le_refl _, rr, ⟨by omega, ha⟩, ?_⟩) (fun h => ⟨rr.length, by omega, rr, ⟨Nat.le_refl _, ha⟩, ?_⟩)
  · simp
  · simp
theorem gr_of {Q : Nat → Prop} {M : List (List Value)} (hL : ∀ c ∈ M, GCells Q [.sl 32 55 [.i .i64, .i .i64, .i .i64, .i .i64, .b]] c) :
    ∃ a : List (List Ac), a.length = M.length ∧ M.flatten = gC enR a ∧ ∀ x ∈ a, OkR x := by
  induction M with
  | nil => exact ⟨[], rfl, rfl, fun x hx => by simp at hx⟩
  | cons c M ih =>
    obtain ⟨a, h1, h2, h3⟩ := ih (fun d hd => hL d (List.mem_cons_of_mem _ hd))
    have hc := hL c (List.mem_cons_self ..)
    match c, hc with
    | [v], hc =>
      obtain ⟨f3, _⟩ := hc
      obtain ⟨n, cells, rfl, hel, hm, hq⟩ := f3
      obtain ⟨p, hl, rfl, hp⟩ := q_ac hel
      subst hl
      refine ⟨p :: a, by rw [List.length_cons, List.length_cons, h1], by rw [List.flatten_cons, h2, gC_cons]; rfl, ?_⟩
      intro x hx
      rcases List.mem_cons.1 hx with rfl | hx
      · exact ⟨hm, hp⟩
      · exact h3 x hx
end Go.Proofs.Ytekijelmdajhlaa.gp
