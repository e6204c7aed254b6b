/- A reader of frames, fed: contract. -/
import Derived.Test.YtcallecdjebojaaGreatSz9
import Derived.Test.YtcallecdjebojaaGreatRows
import Derived.Test.YtcallecdjebojaaGreatLfec
set_option maxRecDepth 20000
set_option linter.unusedSimpArgs false
set_option linter.unusedVariables false
namespace Go.Proofs.YtcallecdjebojaaGreat.fe
open Go Go.Ev Go.Sy Go.RowKit Go.Proofs.YtcallecdjebojaaGreat.s9 Go.Proofs.YtcallecdjebojaaGreat.fd Go.Proofs.YtcallecdjebojaaGreat.gl
def rdU (q k n : Nat) (m sc co : Int) : Row := ⟨[.slice (some ⟨q, k, none⟩) n 1, .int .i64 m, .string ⟨#[]⟩, .int .i64 sc, .int .i64 co, .int .i64 0], false, .cells false⟩
noncomputable def mE := mOf [(48, pE, specE)]
structure Rd where
  x : List UInt8
  k : Nat
  bad : Bool
def keeps (r : Rd) (b : List UInt8) : Bool := decide (r.x.length ≠ 0 ∧ r.x.length - r.k + b.length = 0)
def fdX (r : Rd) (b : List UInt8) : List UInt8 := if keeps r b then r.x else r.x.drop r.k ++ b
def fdK (r : Rd) (b : List UInt8) : Nat := if keeps r b then r.k else 0
def fdR (m : Int) (r : Rd) (b : List UInt8) : List Bf × Nat × Bool := run m (fdX r b).length ((fdX r b).drop (fdK r b))
def fdL (m : Int) (r : Rd) (b : List UInt8) : List Bf := if r.bad then [] else (fdR m r b).1
def fdB (m : Int) (r : Rd) (b : List UInt8) : Bool := r.bad || (fdR m r b).2.2
def fdS (m : Int) (r : Rd) (b : List UInt8) : Rd := if r.bad then r else if (fdR m r b).2.2 then ⟨[], 0, true⟩ else ⟨fdX r b, fdK r b + (fdR m r b).2.1, false⟩
def scB (b : Bool) : Int := if b then 2 else 0
def coB (b : Bool) : Int := if b then 6 else 0
def RdOk (r : Rd) : Prop := r.k ≤ r.x.length ∧ (r.bad = true → r.x = [])
theorem U_vc (x b x2 : List UInt8) (k k2 : Nat) (m sc co sc2 co2 : Int) (l : List Bf) : mcall EtF mE 60 48 [.pointer (some ⟨0, 0, none⟩), slc 1 b.length] ⟨mkR (nums 0 [rdU 2 k (x.length - k) m sc co, bRo b, bOwn x]), 3⟩ (retIsM 3 (.tuple ⟨[slc4 5 l.length, badV sc2 co2 0]⟩) 6 [(0, rdU 4 k2 (x2.length - k2) m sc2 co2), (4, bOwn x2), (5, gOwn enG l)]) =
  (br (sc != (0 : Int)) ((Value.agg (Array.mk [Value.int IntKind.i64 sc, Value.int IntKind.i64 co, Value.int IntKind.i64 (0 : Int)]) = Value.agg (Array.mk [Value.int
  IntKind.i64 sc, Value.int IntKind.i64 co, Value.int IntKind.i64 (0 : Int)])) /\ ((List.length l = 0) /\ ((sc2 = sc) /\ ((co2 = co) /\ (((0 : Int) = (0 : Int)) /\ ((k2 = k)
  /\ ((List.length x2 - k2 = List.length x - k) /\ ((m = m) /\ ((ByteArray.mk #[] = ByteArray.mk #[]) /\ ((sc2 = sc) /\ ((co2 = co) /\ (((0 : Int) = (0 : Int)) /\ ((Eq (α :=
  List Value) (bCells x2) (bCells x)) /\ ((Plain (bCells x2)) /\ ((Eq (α := List Value) (gC enG l) ([])) /\ True))))))))))))))) (br (decide (0 + List.length b * 1 <=
  List.length (bCells b))) (br (allOne (List.take (List.length b * 1) (List.drop 0 (bCells b)))) (br (decide (List.length x - k + List.length b <= 16777216)) (br (decide (0
  < List.length x - k + List.length b ∨ List.length (bCells x) = 0)) (br (decide (k + (List.length x - k) * 1 <= List.length (bCells x))) (∃ g : Ge, ((List.length g.1 <=
  16777216 /\ g.3 <= List.length g.1) /\ ((0 = 0) /\ ((0 = 0) /\ ((0 = 0) /\ ((g.3 = 0) /\ ((List.length g.1 - g.3 = List.length x - k + List.length b) /\ ((g.2 = m) /\
  ((ByteArray.mk #[] = ByteArray.mk #[]) /\ (((0 : Int) = sc) /\ (((0 : Int) = co) /\ (((0 : Int) = (0 : Int)) /\ (((0 : Int) = (0 : Int)) /\ (((0 : Int) = (0 : Int)) /\
  (((0 : Int) = (0 : Int)) /\ ((Eq (α := List Value) (bCells g.1) (List.take ((List.length x - k) * 1) (List.drop k (bCells x)) ++ List.take (List.length b * 1) (List.drop 0
  (bCells b)))) /\ ((Plain (bCells g.1)) /\ ((Eq (α := List Value) ([]) ([])) /\ (∀ (side : Bool), (br (side) (∀ (y : Se), ((y.2 <= List.length g.1 /\ g.3 <= y.2 /\ run
  (Ge.m g) (List.length (Ge.x g)) (List.drop (Ge.k g) (Ge.x g)) = (Prod.fst y, Prod.snd y - Ge.k g, false)) → ((0 = 0) /\ ((List.length l = List.length y.1) /\ ((sc2 = (0 :
  Int)) /\ ((co2 = (0 : Int)) /\ (((0 : Int) = (0 : Int)) /\ ((k2 = y.2) /\ ((List.length x2 - k2 = List.length g.1 - y.2) /\ ((m = g.2) /\ ((ByteArray.mk #[] = ByteArray.mk
  #[]) /\ ((sc2 = (0 : Int)) /\ ((co2 = (0 : Int)) /\ (((0 : Int) = (0 : Int)) /\ ((Eq (α := List Value) (bCells x2) (bCells g.1)) /\ ((Plain (bCells x2)) /\ ((Eq (α := List
  Value) (gC enG l) (gC enG y.1)) /\ ((Plain (gC enG l)) /\ True)))))))))))))))))) (∀ (y : Se), ((∃ k, run (Ge.m g) (List.length (Ge.x g)) (List.drop (Ge.k g) (Ge.x g)) =
  (Prod.fst y, k, true)) → ((0 = 0) /\ ((List.length l = List.length y.1) /\ ((sc2 = (2 : Int)) /\ ((co2 = (6 : Int)) /\ (((0 : Int) = (0 : Int)) /\ ((List.length x2 - k2 =
  0) /\ ((m = g.2) /\ ((ByteArray.mk #[] = ByteArray.mk #[]) /\ ((sc2 = (2 : Int)) /\ ((co2 = (6 : Int)) /\ (((0 : Int) = (0 : Int)) /\ ((Eq (α := List Value) (bCells x2)
  ([])) /\ ((Eq (α := List Value) (gC enG l) (gC enG y.1)) /\ ((Plain (gC enG l)) /\ True)))))))))))))))))))))))))))))))))))) False) (∃ g : Ge, ((List.length g.1 <= 16777216
  /\ g.3 <= List.length g.1) /\ ((0 = 0) /\ ((0 = 0) /\ ((0 = 0) /\ ((g.3 = k) /\ ((List.length g.1 - g.3 = List.length x - k) /\ ((g.2 = m) /\ ((ByteArray.mk #[] =
  ByteArray.mk #[]) /\ (((0 : Int) = sc) /\ (((0 : Int) = co) /\ (((0 : Int) = (0 : Int)) /\ (((0 : Int) = (0 : Int)) /\ (((0 : Int) = (0 : Int)) /\ (((0 : Int) = (0 : Int))
  /\ ((Eq (α := List Value) (bCells g.1) (bCells x)) /\ ((Plain (bCells g.1)) /\ ((Eq (α := List Value) ([]) ([])) /\ (∀ (side : Bool), (br (side) (∀ (y : Se), ((y.2 <=
  List.length g.1 /\ g.3 <= y.2 /\ run (Ge.m g) (List.length (Ge.x g)) (List.drop (Ge.k g) (Ge.x g)) = (Prod.fst y, Prod.snd y - Ge.k g, false)) → ((0 = 0) /\ ((List.length
  l = List.length y.1) /\ ((sc2 = (0 : Int)) /\ ((co2 = (0 : Int)) /\ (((0 : Int) = (0 : Int)) /\ ((k2 = y.2) /\ ((List.length x2 - k2 = List.length g.1 - y.2) /\ ((m = g.2)
  /\ ((ByteArray.mk #[] = ByteArray.mk #[]) /\ ((sc2 = (0 : Int)) /\ ((co2 = (0 : Int)) /\ (((0 : Int) = (0 : Int)) /\ ((Eq (α := List Value) (bCells x2) (bCells g.1)) /\
  ((Plain (bCells x2)) /\ ((Eq (α := List Value) (gC enG l) (gC enG y.1)) /\ ((Plain (gC enG l)) /\ True)))))))))))))))))) (∀ (y : Se), ((∃ k, run (Ge.m g) (List.length
  (Ge.x g)) (List.drop (Ge.k g) (Ge.x g)) = (Prod.fst y, k, true)) → ((0 = 0) /\ ((List.length l = List.length y.1) /\ ((sc2 = (2 : Int)) /\ ((co2 = (6 : Int)) /\ (((0 :
  Int) = (0 : Int)) /\ ((List.length x2 - k2 = 0) /\ ((m = g.2) /\ ((ByteArray.mk #[] = ByteArray.mk #[]) /\ ((sc2 = (2 : Int)) /\ ((co2 = (6 : Int)) /\ (((0 : Int) = (0 :
  Int)) /\ ((Eq (α := List Value) (bCells x2) ([])) /\ ((Eq (α := List Value) (gC enG l) (gC enG y.1)) /\ ((Plain (gC enG l)) /\ True)))))))))))))))))))))))))))))))))))))
  False) False) False)) := by kernel_rfl
theorem fd_key1 (m : Int) (r : Rd) (b : List UInt8) (hb : r.bad = false) (y : Se) (hy : y.snd ≤ (fdX r b).length ∧ fdK r b ≤ y.snd ∧ run m (fdX r b).length (List.drop (fdK r b) (fdX r b)) = (y.fst, y.snd - fdK r b, false)) :
    (fdL m r b).length = y.fst.length ∧ scB (fdB m r b) = 0 ∧ coB (fdB m r b) = 0 ∧ (fdS m r b).k = y.snd ∧ (fdS m r b).x.length - (fdS m r b).k = (fdX r b).length - y.snd ∧ m = m ∧ scB (fdB m r b) = 0 ∧ coB (fdB m r b) = 0 ∧ bCells (fdS m r b).x = bCells (fdX r b) ∧ gC enG (fdL m r b) = gC enG y.fst ∧ Plain (gC enG (fdL m r b)) := by
  obtain ⟨h1, h2, h3⟩ := hy
  have hR : fdR m r b = (y.1, y.2 - fdK r b, false) := h3
  have e1 : fdL m r b = y.1 := by unfold fdL; rw [if_neg (by simp [hb]), hR]
  have e2 : fdB m r b = false := by unfold fdB; rw [hb, hR]; rfl
  have e3 : fdS m r b = ⟨fdX r b, y.2, false⟩ := by unfold fdS; rw [if_neg (by simp [hb]), hR]; simp; omega
  rw [e1, e2, e3]
  exact ⟨rfl, rfl, rfl, rfl, rfl, rfl, rfl, rfl, rfl, rfl, enG_pl _⟩
theorem fd_key2 (m : Int) (r : Rd) (b : List UInt8) (hb : r.bad = false) (y : Se) (hy : ∃ k, run m (fdX r b).length (List.drop (fdK r b) (fdX r b)) = (y.fst, k, true)) :
    (fdL m r b).length = y.fst.length ∧ scB (fdB m r b) = 2 ∧ coB (fdB m r b) = 6 ∧ (fdS m r b).x.length - (fdS m r b).k = 0 ∧ m = m ∧ scB (fdB m r b) = 2 ∧ coB (fdB m r b) = 6 ∧ bCells (fdS m r b).x = [] ∧ gC enG (fdL m r b) = gC enG y.fst ∧ Plain (gC enG (fdL m r b)) := by
  obtain ⟨k, h3⟩ := hy
  have hR : fdR m r b = (y.1, k, true) := h3
  have e1 : fdL m r b = y.1 := by unfold fdL; rw [if_neg (by simp [hb]), hR]
  have e2 : fdB m r b = true := by unfold fdB; rw [hb, hR]; rfl
  have e3 : fdS m r b = ⟨[], 0, true⟩ := by unfold fdS; rw [if_neg (by simp [hb]), hR]; rfl
  rw [e1, e2, e3]
  exact ⟨rfl, rfl, rfl, rfl, rfl, rfl, rfl, rfl, rfl, enG_pl _⟩
theorem U_con (r : Rd) (b : List UInt8) (m : Int) (hr : RdOk r) (hl : r.x.length + b.length ≤ 16777216) :
    ConM Tryz.prog 48 [.pointer (some ⟨0, 0, none⟩), slc 1 b.length] [rdU 2 r.k (r.x.length - r.k) m (scB r.bad) (coB r.bad), bRo b, bOwn r.x]
      (.tuple ⟨[slc4 5 (fdL m r b).length, badV (scB (fdB m r b)) (coB (fdB m r b)) 0]⟩) 6
      [(0, rdU 4 (fdS m r b).k ((fdS m r b).x.length - (fdS m r b).k) m (scB (fdB m r b)) (coB (fdB m r b))), (4, bOwn (fdS m r b).x), (5, gOwn enG (fdL m r b))] := by
  refine conM_vc (E := EtF) mixed (calls_envT tF_ok) (lok_envT _ _) (M := mE) (lm_one E_piece) (U_vc r.x b _ r.k _ m _ _ _ _ _) ?_
  obtain ⟨h1, h2⟩ := hr
  simp only [ofNat_eq, toNat_cast, Nat.zero_add, Nat.add_zero, Nat.mul_one, List.drop_zero, bCells_len, bCells_drop, bCells_take, bCells_app, bCells_one, bCells_plain, List.length_replicate, List.length_append, List.length_take, List.length_drop, List.take_length, and_true, true_and, and_self, decide_true, List.length_nil, List.length_cons, Nat.sub_zero, dB_mk, dB_ro, List.take_zero]
  cases hb : r.bad with
  | true =>
    have hx := h2 hb
    have e1 : fdL m r b = [] := by unfold fdL; rw [if_pos hb]
    have e2 : fdS m r b = r := by unfold fdS; rw [if_pos hb]
    have e3 : fdB m r b = true := by unfold fdB; rw [hb]; rfl
    rw [e1, e2, e3]
    exact ⟨rfl, rfl, rfl, rfl, rfl, rfl, rfl, rfl, rfl⟩
  | false =>
    have e3 : fdB m r b = (fdR m r b).2.2 := by unfold fdB; rw [hb]; rfl
    have e1 : fdL m r b = (fdR m r b).1 := by unfold fdL; rw [if_neg (by simp [hb])]
    have hS : fdS m r b = if (fdR m r b).2.2 then ⟨[], 0, true⟩ else ⟨fdX r b, fdK r b + (fdR m r b).2.1, false⟩ := by unfold fdS; rw [if_neg (by simp [hb])]
    have key1 := fd_key1 m r b hb
    have key2 := fd_key2 m r b hb
    refine br_nb rfl (br_dec (Nat.le_refl _) (br_b rfl (br_dec (by omega) (br_if (fun h0 => br_dec (by omega) ?_) (fun h0 => ?_)))))
    · have hk : keeps r b = false := by unfold keeps; exact decide_eq_false (by omega)
      have ex : fdX r b = r.x.drop r.k ++ b := by unfold fdX; rw [if_neg (by simp [hk])]
      have ek : fdK r b = 0 := by unfold fdK; rw [if_neg (by simp [hk])]
      have elen : (fdX r b).length = r.x.length - r.k + b.length := by rw [ex, List.length_append, List.length_drop]
      refine ⟨⟨fdX r b, m, fdK r b⟩, ⟨by simp only; omega, by simp only; omega⟩, ek, by simp only; omega, rfl, rfl, rfl, ?_, fun side => br_side (fun y hy => key1 y hy) (fun y hy => key2 y hy) side⟩
      simp only; rw [ex, List.take_of_length_le (by rw [List.length_drop]; omega)]
    · have hk : keeps r b = true := by unfold keeps; exact decide_eq_true (by omega)
      have ex : fdX r b = r.x := by unfold fdX; rw [if_pos hk]
      have ek : fdK r b = r.k := by unfold fdK; rw [if_pos hk]
      refine ⟨⟨fdX r b, m, fdK r b⟩, ⟨by simp only; rw [ex]; omega, by simp only; rw [ex, ek]; exact h1⟩, ek, by simp only; rw [ex, ek], rfl, rfl, rfl, by simp only; rw [ex], fun side => br_side (fun y hy => key1 y hy) (fun y hy => key2 y hy) side⟩
end Go.Proofs.YtcallecdjebojaaGreat.fe
