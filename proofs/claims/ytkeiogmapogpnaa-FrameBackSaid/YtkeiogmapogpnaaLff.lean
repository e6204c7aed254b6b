/- A reader of frames, fed: contract. -/
import Derived.Test.YtkeiogmapogpnaaSz9
import Derived.Test.YtkeiogmapogpnaaRows
import Derived.Test.YtkeiogmapogpnaaLfe
set_option linter.unusedSimpArgs false
set_option linter.unusedVariables false
namespace Go.Proofs.Ytkeiogmapogpnaa.fe
open Go Go.Ev Go.Sy Go.RowKit Go.Proofs.Ytkeiogmapogpnaa.s9 Go.Proofs.Ytkeiogmapogpnaa.fd Go.Proofs.Ytkeiogmapogpnaa.gl
def rdU (q k n : Nat) (m sc co : Int) : Row := ⟨[.slice (some ⟨q, k, none⟩) n 1, .int .i64 m, .string ⟨#[]⟩, .int .i64 sc, .int .i64 co, .int .i64 0], false, .cells false⟩
noncomputable def mE2 := mOf [(14, pE, specE2)]
noncomputable def mE := mOf [(14, pE, specE)]
structure Rd where
  x : List UInt8
  k : Nat
  bad : Bool
def keeps (r : Rd) (b : List UInt8) : Bool := decide (r.x.length ≠ 0 ∧ r.x.length - r.k + b.length = 0)
def fdX (r : Rd) (b : List UInt8) : List UInt8 := if keeps r b then r.x else r.x.drop r.k ++ b
def fdK (r : Rd) (b : List UInt8) : Nat := if keeps r b then r.k else 0
def fdR (m : Int) (r : Rd) (b : List UInt8) : List Bf × Nat × Bool := run m (fdX r b).length ((fdX r b).drop (fdK r b))
def fdL (m : Int) (r : Rd) (b : List UInt8) : List Bf := if r.bad then [] else (fdR m r b).1
def fdB (m : Int) (r : Rd) (b : List UInt8) : Bool := r.bad || (fdR m r b).2.2
def fdS (m : Int) (r : Rd) (b : List UInt8) : Rd := if r.bad then r else if (fdR m r b).2.2 then ⟨[], 0, true⟩ else ⟨fdX r b, fdK r b + (fdR m r b).2.1, false⟩
def scB (b : Bool) : Int := if b then 2 else 0
def coB (b : Bool) : Int := if b then 6 else 0
def RdOk (r : Rd) : Prop := r.k ≤ r.x.length ∧ (r.bad = true → r.x = [])
theorem fl_ex (f : Row → Nat → Int → Int → Row → List Bf) : ∃ g, g = f := ⟨f, rfl⟩
theorem fs_ex (f : Row → Nat → Int → Int → Row → List UInt8) : ∃ g, g = f := ⟨f, rfl⟩
theorem fn_ex (f : Row → Nat → Int → Int → Row → Nat) : ∃ g, g = f := ⟨f, rfl⟩
theorem fi_ex (f : Row → Nat → Int → Int → Row → Int) : ∃ g, g = f := ⟨f, rfl⟩
def rdOf (r : Row) (k : Nat) (sc : Int) : Rd := ⟨dB r, k, decide (sc ≠ 0)⟩
noncomputable def zL : Row → Nat → Int → Int → Row → List Bf := Classical.choose (fl_ex fun r k m sc b => fdL m (rdOf r k sc) (dB b))
noncomputable def zX : Row → Nat → Int → Int → Row → List UInt8 := Classical.choose (fs_ex fun r k m sc b => (fdS m (rdOf r k sc) (dB b)).x)
noncomputable def zK : Row → Nat → Int → Int → Row → Nat := Classical.choose (fn_ex fun r k m sc b => (fdS m (rdOf r k sc) (dB b)).k)
noncomputable def zN : Row → Nat → Int → Int → Row → Nat := Classical.choose (fn_ex fun r k m sc b => (fdS m (rdOf r k sc) (dB b)).x.length - (fdS m (rdOf r k sc) (dB b)).k)
noncomputable def zB : Row → Nat → Int → Int → Row → Int := Classical.choose (fi_ex fun r k m sc b => scB (fdB m (rdOf r k sc) (dB b)))
noncomputable def zC : Row → Nat → Int → Int → Row → Int := Classical.choose (fi_ex fun r k m sc b => coB (fdB m (rdOf r k sc) (dB b)))
noncomputable def zM : Row → Nat → Int → Int → Row → Nat := Classical.choose (fn_ex fun r k m sc b => (fdL m (rdOf r k sc) (dB b)).length)
def IsR (r1 : Row) (k n : Nat) (sc co : Int) (r2 : Row) (nb : Nat) : Prop := ∃ (r : Rd) (b : List UInt8), r1 = bOwn r.x ∧ k = r.k ∧ n = r.x.length - r.k ∧ sc = scB r.bad ∧ co = coB r.bad ∧ RdOk r ∧ r2 = bRo b ∧ nb = b.length ∧ r.x.length + b.length ≤ 16777216
def r0E : Row := bOwn []
noncomputable def eFeed : EntM := (14, fun a r => match a, r with
  | [.pointer (some ⟨0, 0, none⟩), .slice (some ⟨1, 0, none⟩) nb 1], [⟨[.slice (some ⟨2, k, none⟩) n 1, .int .i64 m, .string st, .int .i64 sc, .int .i64 co, .int .i64 0], false, .cells false⟩, r2, r1] =>
    some (st = ⟨#[]⟩ ∧ IsR r1 k n sc co r2 nb, .tuple ⟨[slc4 5 (zM r1 k m sc r2), badV (zB r1 k m sc r2) (zC r1 k m sc r2) 0]⟩, 6, [(0, rdU 4 (zK r1 k m sc r2) (zN r1 k m sc r2) m (zB r1 k m sc r2) (zC r1 k m sc r2)), (4, bOwn (zX r1 k m sc r2)), (5, gOwn enG (zL r1 k m sc r2))])
  | [.pointer (some ⟨0, 0, none⟩), .slice (some ⟨1, 0, none⟩) nb 1], [⟨[.slice none 0 0, .int .i64 m, .string st, .int .i64 0, .int .i64 0, .int .i64 0], false, .cells false⟩, r2] =>
    some (st = ⟨#[]⟩ ∧ IsB r2 nb ∧ nb ≤ 16777216, .tuple ⟨[slc4 4 (zM r0E 0 m 0 r2), badV (zB r0E 0 m 0 r2) (zC r0E 0 m 0 r2) 0]⟩, 5, [(0, rdU 3 (zK r0E 0 m 0 r2) (zN r0E 0 m 0 r2) m (zB r0E 0 m 0 r2) (zC r0E 0 m 0 r2)), (3, bOwn (zX r0E 0 m 0 r2)), (4, gOwn enG (zL r0E 0 m 0 r2))])
  | _, _ => none)
theorem U_vc (x b x2 : List UInt8) (k k2 : Nat) (m sc co sc2 co2 : Int) (l : List Bf) : mcall EtF mE 60 14 [.pointer (some ⟨0, 0, none⟩), slc 1 b.length] ⟨mkR (nums 0 [rdU 2 k (x.length - k) m sc co, bRo b, bOwn x]), 3⟩ (retIsM 3 (.tuple ⟨[slc4 5 l.length, badV sc2 co2 0]⟩) 6 [(0, rdU 4 k2 (x2.length - k2) m sc2 co2), (4, bOwn x2), (5, gOwn enG l)]) =
  (br (sc != (0 : Int)) ((Value.agg (Array.mk [Value.int IntKind.i64 sc, Value.int IntKind.i64 co, Value.int IntKind.i64 (0 : Int)]) = Value.agg (Array.mk [Value.int
  IntKind.i64 sc, Value.int IntKind.i64 co, Value.int IntKind.i64 (0 : Int)])) /\ ((List.length l = 0) /\ ((sc2 = sc) /\ ((co2 = co) /\ (((0 : Int) = (0 : Int)) /\ ((k2 = k)
  /\ ((List.length x2 - k2 = List.length x - k) /\ ((m = m) /\ ((ByteArray.mk #[] = ByteArray.mk #[]) /\ ((sc2 = sc) /\ ((co2 = co) /\ (((0 : Int) = (0 : Int)) /\ ((Eq (α :=
  List Value) (bCells x2) (bCells x)) /\ ((Plain (bCells x2)) /\ ((Eq (α := List Value) (gC enG l) ([])) /\ True))))))))))))))) (br (decide (0 + List.length b * 1 <=
  List.length (bCells b))) (br (allOne (List.take (List.length b * 1) (List.drop 0 (bCells b)))) (br (decide (List.length x - k + List.length b <= 16777216)) (br (decide (0
  < List.length x - k + List.length b ∨ List.length (bCells x) = 0)) (br (decide (k + (List.length x - k) * 1 <= List.length (bCells x))) (∃ g : Ge, ((List.length g.1 <=
  16777216 /\ g.3 <= List.length g.1) /\ ((0 = 0) /\ ((0 = 0) /\ ((0 = 0) /\ ((g.3 = 0) /\ ((List.length g.1 - g.3 = List.length x - k + List.length b) /\ ((g.2 = m) /\
  ((ByteArray.mk #[] = ByteArray.mk #[]) /\ (((0 : Int) = sc) /\ (((0 : Int) = co) /\ (((0 : Int) = (0 : Int)) /\ (((0 : Int) = (0 : Int)) /\ (((0 : Int) = (0 : Int)) /\
  (((0 : Int) = (0 : Int)) /\ ((Eq (α := List Value) (bCells g.1) (List.take ((List.length x - k) * 1) (List.drop k (bCells x)) ++ List.take (List.length b * 1) (List.drop 0
  (bCells b)))) /\ ((Plain (bCells g.1)) /\ ((Eq (α := List Value) ([]) ([])) /\ (∀ (side : Bool), (br (side) (∀ (y : Se), ((y.2 <= List.length g.1 /\ g.3 <= y.2 /\ run
  (Ge.m g) (List.length (Ge.x g)) (List.drop (Ge.k g) (Ge.x g)) = (Prod.fst y, Prod.snd y - Ge.k g, false)) → ((0 = 0) /\ ((List.length l = List.length y.1) /\ ((sc2 = (0 :
  Int)) /\ ((co2 = (0 : Int)) /\ (((0 : Int) = (0 : Int)) /\ ((k2 = y.2) /\ ((List.length x2 - k2 = List.length g.1 - y.2) /\ ((m = g.2) /\ ((ByteArray.mk #[] = ByteArray.mk
  #[]) /\ ((sc2 = (0 : Int)) /\ ((co2 = (0 : Int)) /\ (((0 : Int) = (0 : Int)) /\ ((Eq (α := List Value) (bCells x2) (bCells g.1)) /\ ((Plain (bCells x2)) /\ ((Eq (α := List
  Value) (gC enG l) (gC enG y.1)) /\ ((Plain (gC enG l)) /\ True)))))))))))))))))) (∀ (y : Se), ((∃ k, run (Ge.m g) (List.length (Ge.x g)) (List.drop (Ge.k g) (Ge.x g)) =
  (Prod.fst y, k, true)) → ((0 = 0) /\ ((List.length l = List.length y.1) /\ ((sc2 = (2 : Int)) /\ ((co2 = (6 : Int)) /\ (((0 : Int) = (0 : Int)) /\ ((List.length x2 - k2 =
  0) /\ ((m = g.2) /\ ((ByteArray.mk #[] = ByteArray.mk #[]) /\ ((sc2 = (2 : Int)) /\ ((co2 = (6 : Int)) /\ (((0 : Int) = (0 : Int)) /\ ((Eq (α := List Value) (bCells x2)
  ([])) /\ ((Eq (α := List Value) (gC enG l) (gC enG y.1)) /\ ((Plain (gC enG l)) /\ True)))))))))))))))))))))))))))))))))))) False) (∃ g : Ge, ((List.length g.1 <= 16777216
  /\ g.3 <= List.length g.1) /\ ((0 = 0) /\ ((0 = 0) /\ ((0 = 0) /\ ((g.3 = k) /\ ((List.length g.1 - g.3 = List.length x - k) /\ ((g.2 = m) /\ ((ByteArray.mk #[] =
  ByteArray.mk #[]) /\ (((0 : Int) = sc) /\ (((0 : Int) = co) /\ (((0 : Int) = (0 : Int)) /\ (((0 : Int) = (0 : Int)) /\ (((0 : Int) = (0 : Int)) /\ (((0 : Int) = (0 : Int))
  /\ ((Eq (α := List Value) (bCells g.1) (bCells x)) /\ ((Plain (bCells g.1)) /\ ((Eq (α := List Value) ([]) ([])) /\ (∀ (side : Bool), (br (side) (∀ (y : Se), ((y.2 <=
  List.length g.1 /\ g.3 <= y.2 /\ run (Ge.m g) (List.length (Ge.x g)) (List.drop (Ge.k g) (Ge.x g)) = (Prod.fst y, Prod.snd y - Ge.k g, false)) → ((0 = 0) /\ ((List.length
  l = List.length y.1) /\ ((sc2 = (0 : Int)) /\ ((co2 = (0 : Int)) /\ (((0 : Int) = (0 : Int)) /\ ((k2 = y.2) /\ ((List.length x2 - k2 = List.length g.1 - y.2) /\ ((m = g.2)
  /\ ((ByteArray.mk #[] = ByteArray.mk #[]) /\ ((sc2 = (0 : Int)) /\ ((co2 = (0 : Int)) /\ (((0 : Int) = (0 : Int)) /\ ((Eq (α := List Value) (bCells x2) (bCells g.1)) /\
  ((Plain (bCells x2)) /\ ((Eq (α := List Value) (gC enG l) (gC enG y.1)) /\ ((Plain (gC enG l)) /\ True)))))))))))))))))) (∀ (y : Se), ((∃ k, run (Ge.m g) (List.length
  (Ge.x g)) (List.drop (Ge.k g) (Ge.x g)) = (Prod.fst y, k, true)) → ((0 = 0) /\ ((List.length l = List.length y.1) /\ ((sc2 = (2 : Int)) /\ ((co2 = (6 : Int)) /\ (((0 :
  Int) = (0 : Int)) /\ ((List.length x2 - k2 = 0) /\ ((m = g.2) /\ ((ByteArray.mk #[] = ByteArray.mk #[]) /\ ((sc2 = (2 : Int)) /\ ((co2 = (6 : Int)) /\ (((0 : Int) = (0 :
  Int)) /\ ((Eq (α := List Value) (bCells x2) ([])) /\ ((Eq (α := List Value) (gC enG l) (gC enG y.1)) /\ ((Plain (gC enG l)) /\ True)))))))))))))))))))))))))))))))))))))
  False) False) False)) := by kernel_rfl
theorem N_vc (b x2 : List UInt8) (k2 : Nat) (m sc2 co2 : Int) (l : List Bf) : mcall EtF mE2 60 14 [.pointer (some ⟨0, 0, none⟩), slc 1 b.length] ⟨mkR (nums 0 [rdN m, bRo b]), 2⟩ (retIsM 2 (.tuple ⟨[slc4 4 l.length, badV sc2 co2 0]⟩) 5 [(0, rdU 3 k2 (x2.length - k2) m sc2 co2), (3, bOwn x2), (4, gOwn enG l)]) =
  (br (decide (0 + List.length b * 1 <= List.length (bCells b))) (br (allOne (List.take (List.length b * 1) (List.drop 0 (bCells b)))) (br (decide (List.length b <=
  16777216)) (∃ g : Ge, ((List.length g.1 <= 16777216 /\ g.3 <= List.length g.1) /\ ((0 = 0) /\ ((0 = 0) /\ ((0 = 0) /\ ((g.3 = 0) /\ ((List.length g.1 - g.3 = List.length
  b) /\ ((g.2 = m) /\ ((ByteArray.mk #[] = ByteArray.mk #[]) /\ (((0 : Int) = (0 : Int)) /\ (((0 : Int) = (0 : Int)) /\ (((0 : Int) = (0 : Int)) /\ (((0 : Int) = (0 : Int))
  /\ (((0 : Int) = (0 : Int)) /\ (((0 : Int) = (0 : Int)) /\ ((Eq (α := List Value) (bCells g.1) (List.take (List.length b * 1) (List.drop 0 (bCells b)))) /\ ((Plain (bCells
  g.1)) /\ ((Eq (α := List Value) ([]) ([])) /\ (∀ (side : Bool), (br (side) (∀ (y : Se), ((y.2 <= List.length g.1 /\ g.3 <= y.2 /\ run (Ge.m g) (List.length (Ge.x g))
  (List.drop (Ge.k g) (Ge.x g)) = (Prod.fst y, Prod.snd y - Ge.k g, false)) → ((0 = 0) /\ ((List.length l = List.length y.1) /\ ((sc2 = (0 : Int)) /\ ((co2 = (0 : Int)) /\
  (((0 : Int) = (0 : Int)) /\ ((k2 = y.2) /\ ((List.length x2 - k2 = List.length g.1 - y.2) /\ ((m = g.2) /\ ((ByteArray.mk #[] = ByteArray.mk #[]) /\ ((sc2 = (0 : Int)) /\
  ((co2 = (0 : Int)) /\ (((0 : Int) = (0 : Int)) /\ ((Eq (α := List Value) (bCells x2) (bCells g.1)) /\ ((Plain (bCells x2)) /\ ((Eq (α := List Value) (gC enG l) (gC enG
  y.1)) /\ ((Plain (gC enG l)) /\ True)))))))))))))))))) (∀ (y : Se), ((∃ k, run (Ge.m g) (List.length (Ge.x g)) (List.drop (Ge.k g) (Ge.x g)) = (Prod.fst y, k, true)) → ((0
  = 0) /\ ((List.length l = List.length y.1) /\ ((sc2 = (2 : Int)) /\ ((co2 = (6 : Int)) /\ (((0 : Int) = (0 : Int)) /\ ((List.length x2 - k2 = 0) /\ ((m = g.2) /\
  ((ByteArray.mk #[] = ByteArray.mk #[]) /\ ((sc2 = (2 : Int)) /\ ((co2 = (6 : Int)) /\ (((0 : Int) = (0 : Int)) /\ ((Eq (α := List Value) (bCells x2) ([])) /\ ((Eq (α :=
  List Value) (gC enG l) (gC enG y.1)) /\ ((Plain (gC enG l)) /\ True)))))))))))))))))))))))))))))))))))) False) False) False) := by kernel_rfl
theorem run_le (m : Int) : ∀ (n : Nat) (x : List UInt8), (run m n x).2.1 ≤ x.length ∧ (run m n x).1.length ≤ (run m n x).2.1 := by
  intro n
  induction n with
  | zero => intro x; simp [run]
  | succ n ih =>
    intro x
    simp only [run]
    split
    · simp
    · split
      · simp
      · split
        · simp
        · have := ih (x.drop (9 + lenF x))
          rw [List.length_drop] at this
          simp only [List.length_cons]
          omega
theorem fd_key1 (m : Int) (r : Rd) (b : List UInt8) (hb : r.bad = false) (y : Se) (hy : y.snd ≤ (fdX r b).length ∧ fdK r b ≤ y.snd ∧ run m (fdX r b).length (List.drop (fdK r b) (fdX r b)) = (y.fst, y.snd - fdK r b, false)) :
    (fdL m r b).length = y.fst.length ∧ scB (fdB m r b) = 0 ∧ coB (fdB m r b) = 0 ∧ (fdS m r b).k = y.snd ∧ (fdS m r b).x.length - (fdS m r b).k = (fdX r b).length - y.snd ∧ m = m ∧ scB (fdB m r b) = 0 ∧ coB (fdB m r b) = 0 ∧ bCells (fdS m r b).x = bCells (fdX r b) ∧ gC enG (fdL m r b) = gC enG y.fst ∧ Plain (gC enG (fdL m r b)) := by
  obtain ⟨h1, h2, h3⟩ := hy
  have hR : fdR m r b = (y.1, y.2 - fdK r b, false) := h3
  have e1 : fdL m r b = y.1 := by unfold fdL; rw [if_neg (by simp [hb]), hR]
  have e2 : fdB m r b = false := by unfold fdB; rw [hb, hR]; rfl
  have e3 : fdS m r b = ⟨fdX r b, y.2, false⟩ := by unfold fdS; rw [if_neg (by simp [hb]), hR]; simp; omega
  rw [e1, e2, e3]
  exact ⟨rfl, rfl, rfl, rfl, rfl, rfl, rfl, rfl, rfl, rfl, enG_pl _⟩
theorem fd_key2 (m : Int) (r : Rd) (b : List UInt8) (hb : r.bad = false) (y : Se) (hy : ∃ k, run m (fdX r b).length (List.drop (fdK r b) (fdX r b)) = (y.fst, k, true)) :
    (fdL m r b).length = y.fst.length ∧ scB (fdB m r b) = 2 ∧ coB (fdB m r b) = 6 ∧ (fdS m r b).x.length - (fdS m r b).k = 0 ∧ m = m ∧ scB (fdB m r b) = 2 ∧ coB (fdB m r b) = 6 ∧ bCells (fdS m r b).x = [] ∧ gC enG (fdL m r b) = gC enG y.fst ∧ Plain (gC enG (fdL m r b)) := by
  obtain ⟨k, h3⟩ := hy
  have hR : fdR m r b = (y.1, k, true) := h3
  have e1 : fdL m r b = y.1 := by unfold fdL; rw [if_neg (by simp [hb]), hR]
  have e2 : fdB m r b = true := by unfold fdB; rw [hb, hR]; rfl
  have e3 : fdS m r b = ⟨[], 0, true⟩ := by unfold fdS; rw [if_neg (by simp [hb]), hR]; rfl
  rw [e1, e2, e3]
  exact ⟨rfl, rfl, rfl, rfl, rfl, rfl, rfl, rfl, rfl, enG_pl _⟩
theorem U_con (r : Rd) (b : List UInt8) (m : Int) (hr : RdOk r) (hl : r.x.length + b.length ≤ 16777216) :
    ConM Try.prog 14 [.pointer (some ⟨0, 0, none⟩), slc 1 b.length] [rdU 2 r.k (r.x.length - r.k) m (scB r.bad) (coB r.bad), bRo b, bOwn r.x]
      (.tuple ⟨[slc4 5 (fdL m r b).length, badV (scB (fdB m r b)) (coB (fdB m r b)) 0]⟩) 6
      [(0, rdU 4 (fdS m r b).k ((fdS m r b).x.length - (fdS m r b).k) m (scB (fdB m r b)) (coB (fdB m r b))), (4, bOwn (fdS m r b).x), (5, gOwn enG (fdL m r b))] := by
  refine conM_vc (E := EtF) mixed (calls_envT tF_ok) (lok_envT _ _) (M := mE) (lm_one E_piece) (U_vc r.x b _ r.k _ m _ _ _ _ _) ?_
  obtain ⟨h1, h2⟩ := hr
  simp only [ofNat_eq, toNat_cast, Nat.zero_add, Nat.add_zero, Nat.mul_one, List.drop_zero, bCells_len, bCells_drop, bCells_take, bCells_app, bCells_one, bCells_plain, List.length_replicate, List.length_append, List.length_take, List.length_drop, List.take_length, and_true, true_and, and_self, decide_true, List.length_nil, List.length_cons, Nat.sub_zero, dB_mk, dB_ro, List.take_zero]
  cases hb : r.bad with
  | true =>
    have hx := h2 hb
    have e1 : fdL m r b = [] := by unfold fdL; rw [if_pos hb]
    have e2 : fdS m r b = r := by unfold fdS; rw [if_pos hb]
    have e3 : fdB m r b = true := by unfold fdB; rw [hb]; rfl
    rw [e1, e2, e3]
    exact ⟨rfl, rfl, rfl, rfl, rfl, rfl, rfl, rfl, rfl⟩
  | false =>
    have e3 : fdB m r b = (fdR m r b).2.2 := by unfold fdB; rw [hb]; rfl
    have e1 : fdL m r b = (fdR m r b).1 := by unfold fdL; rw [if_neg (by simp [hb])]
    have hS : fdS m r b = if (fdR m r b).2.2 then ⟨[], 0, true⟩ else ⟨fdX r b, fdK r b + (fdR m r b).2.1, false⟩ := by unfold fdS; rw [if_neg (by simp [hb])]
    have key1 := fd_key1 m r b hb
    have key2 := fd_key2 m r b hb
    refine br_nb rfl (br_dec (Nat.le_refl _) (br_b rfl (br_dec (by omega) (br_if (fun h0 => br_dec (by omega) ?_) (fun h0 => ?_)))))
    · have hk : keeps r b = false := by unfold keeps; exact decide_eq_false (by omega)
      have ex : fdX r b = r.x.drop r.k ++ b := by unfold fdX; rw [if_neg (by simp [hk])]
      have ek : fdK r b = 0 := by unfold fdK; rw [if_neg (by simp [hk])]
      have elen : (fdX r b).length = r.x.length - r.k + b.length := by rw [ex, List.length_append, List.length_drop]
      refine ⟨⟨fdX r b, m, fdK r b⟩, ⟨by simp only; omega, by simp only; omega⟩, ek, by simp only; omega, rfl, rfl, rfl, ?_, fun side => br_side (fun y hy => key1 y hy) (fun y hy => key2 y hy) side⟩
      simp only; rw [ex, List.take_of_length_le (by rw [List.length_drop]; omega)]
    · have hk : keeps r b = true := by unfold keeps; exact decide_eq_true (by omega)
      have ex : fdX r b = r.x := by unfold fdX; rw [if_pos hk]
      have ek : fdK r b = r.k := by unfold fdK; rw [if_pos hk]
      refine ⟨⟨fdX r b, m, fdK r b⟩, ⟨by simp only; rw [ex]; omega, by simp only; rw [ex, ek]; exact h1⟩, ek, by simp only; rw [ex, ek], rfl, rfl, rfl, by simp only; rw [ex], fun side => br_side (fun y hy => key1 y hy) (fun y hy => key2 y hy) side⟩
theorem N_con (b : List UInt8) (m : Int) (hl : b.length ≤ 16777216) :
    ConM Try.prog 14 [.pointer (some ⟨0, 0, none⟩), slc 1 b.length] [rdN m, bRo b]
      (.tuple ⟨[slc4 4 (fdL m ⟨[], 0, false⟩ b).length, badV (scB (fdB m ⟨[], 0, false⟩ b)) (coB (fdB m ⟨[], 0, false⟩ b)) 0]⟩) 5
      [(0, rdU 3 (fdS m ⟨[], 0, false⟩ b).k ((fdS m ⟨[], 0, false⟩ b).x.length - (fdS m ⟨[], 0, false⟩ b).k) m (scB (fdB m ⟨[], 0, false⟩ b)) (coB (fdB m ⟨[], 0, false⟩ b))), (3, bOwn (fdS m ⟨[], 0, false⟩ b).x), (4, gOwn enG (fdL m ⟨[], 0, false⟩ b))] := by
  refine conM_vc (E := EtF) mixed (calls_envT tF_ok) (lok_envT _ _) (M := mE2) (lm_one E_piece2) (N_vc b _ _ m _ _ _) ?_
  have key1 := fd_key1 m ⟨[], 0, false⟩ b rfl
  have key2 := fd_key2 m ⟨[], 0, false⟩ b rfl
  simp only [ofNat_eq, toNat_cast, Nat.zero_add, Nat.add_zero, Nat.mul_one, List.drop_zero, bCells_len, bCells_drop, bCells_take, bCells_app, bCells_one, bCells_plain, List.length_replicate, List.length_append, List.length_take, List.length_drop, List.take_length, and_true, true_and, and_self, decide_true, List.length_nil, List.length_cons, Nat.sub_zero, dB_mk, dB_ro, List.take_zero]
  have hk : keeps ⟨[], 0, false⟩ b = false := by unfold keeps; exact decide_eq_false (by simp)
  have ex : fdX ⟨[], 0, false⟩ b = b := by unfold fdX; rw [if_neg (by simp [hk])]; rfl
  have ek : fdK ⟨[], 0, false⟩ b = 0 := by unfold fdK; rw [if_neg (by simp [hk])]
  refine br_dec (Nat.le_refl _) (br_b rfl (br_dec (by omega) ⟨⟨fdX ⟨[], 0, false⟩ b, m, fdK ⟨[], 0, false⟩ b⟩, ⟨by simp only; rw [ex]; exact hl, by simp only; rw [ek]; exact Nat.zero_le _⟩, ek, by simp only; rw [ex, ek]; rfl, rfl, by simp only; rw [ex], fun side => br_side (fun y hy => key1 y hy) (fun y hy => key2 y hy) side⟩))
theorem rdOf_mk (r : Rd) : rdOf (bOwn r.x) r.k (scB r.bad) = r := by
  unfold rdOf
  rw [show dB (bOwn r.x) = r.x from dB_mk _ _ _]
  obtain ⟨x, k, b⟩ := r
  cases b <;> rfl
theorem z_all (r : Rd) (m : Int) (b : List UInt8) : zL (bOwn r.x) r.k m (scB r.bad) (bRo b) = fdL m r b ∧ zX (bOwn r.x) r.k m (scB r.bad) (bRo b) = (fdS m r b).x ∧ zK (bOwn r.x) r.k m (scB r.bad) (bRo b) = (fdS m r b).k ∧ zN (bOwn r.x) r.k m (scB r.bad) (bRo b) = (fdS m r b).x.length - (fdS m r b).k ∧ zB (bOwn r.x) r.k m (scB r.bad) (bRo b) = scB (fdB m r b) ∧ zC (bOwn r.x) r.k m (scB r.bad) (bRo b) = coB (fdB m r b) ∧ zM (bOwn r.x) r.k m (scB r.bad) (bRo b) = (fdL m r b).length := by
  have h := rdOf_mk r
  have hb : dB (bRo b) = b := dB_ro b
  unfold zL zX zK zN zB zC zM
  refine ⟨?_, ?_, ?_, ?_, ?_, ?_, ?_⟩
  · rw [Classical.choose_spec (fl_ex _)]; rw [h, hb]
  · rw [Classical.choose_spec (fs_ex _)]; rw [h, hb]
  · rw [Classical.choose_spec (fn_ex _)]; rw [h, hb]
  · rw [Classical.choose_spec (fn_ex _)]; rw [h, hb]
  · rw [Classical.choose_spec (fi_ex _)]; rw [h, hb]
  · rw [Classical.choose_spec (fi_ex _)]; rw [h, hb]
  · rw [Classical.choose_spec (fn_ex _)]; rw [h, hb]
theorem eFeed_ok : EntOk Try.prog eFeed := by
  intro a rows p v n' rl he hp
  simp only [eFeed] at he
  split at he
  · simp only [Option.some.injEq, Prod.mk.injEq] at he
    obtain ⟨rfl, rfl, rfl, rfl⟩ := he
    obtain ⟨rfl, r, b, rfl, rfl, rfl, rfl, rfl, h1, rfl, rfl, h2⟩ := hp
    rename_i m
    obtain ⟨e1, e2, e3, e4, e5, e6, e7⟩ := z_all r m b
    rw [e1, e2, e3, e4, e5, e6, e7]
    exact U_con r b m h1 h2
  · simp only [Option.some.injEq, Prod.mk.injEq] at he
    obtain ⟨rfl, rfl, rfl, rfl⟩ := he
    obtain ⟨rfl, ⟨b, rfl, rfl⟩, h2⟩ := hp
    rename_i m
    obtain ⟨e1, e2, e3, e4, e5, e6, e7⟩ := z_all ⟨[], 0, false⟩ m b
    have e0 : r0E = bOwn (⟨[], 0, false⟩ : Rd).x := rfl
    have es : scB (⟨[], 0, false⟩ : Rd).bad = 0 := rfl
    rw [← e0, es] at e1 e2 e3 e4 e5 e6 e7
    simp only at e1 e2 e3 e4 e5 e6 e7
    rw [e1, e2, e3, e4, e5, e6, e7]
    exact N_con b m h2
  · simp at he
end Go.Proofs.Ytkeiogmapogpnaa.fe
