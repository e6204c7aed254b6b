/- Numbers in decimal, as the document writes them. -/
import Derived.Test.YtnbfhihibgdgpaaGreatDoorSz9
import Derived.Test.YtnbfhihibgdgpaaGreatDoorRows
import Derived.Test.YtnbfhihibgdgpaaGreatDoorLslA
import Derived.Test.YtnbfhihibgdgpaaGreatDoorLitA
set_option maxRecDepth 20000
set_option linter.unusedSimpArgs false
set_option linter.unusedVariables false
namespace Go.Proofs.YtnbfhihibgdgpaaGreatDoor.sl
open Go Go.Ev Go.Sy Go.RowKit Go.Proofs.YtnbfhihibgdgpaaGreatDoor.gl Go.Proofs.YtnbfhihibgdgpaaGreatDoor.tk Go.Proofs.YtnbfhihibgdgpaaGreatDoor.it
structure SD where
  u : Nat
  s : List UInt8
def pDi : List Nat := [0, 0, 1, 1]
def slDi (x : SD) : List (Nat × Value) := [(0, .int .u64 (x.u : Nat)), (3, .string (bs x.s))]
def wsDi (u : Nat) : List (Gate Unit) := [⟨.exit 0, fun _ => True, fun _ => [(3, .string (bs (Lib.decDigits u)))], fun _ => [], 0⟩]
def specDi : Sy.Spec := specOf 0 0 21 (fun u : Nat => u < 18446744073709551616) (fun u => slDi ⟨u, []⟩) (fun _ => []) wsDi
def mDi := mOf [(47, pDi, specDi)]
noncomputable def decZ : Int → ByteArray := sealV fun u => bs (Lib.decDigits u.toNat)
noncomputable def eDi : EntM := entC 47 fun a r => match a, r with
  | [.int .u64 u], [] => some (0 ≤ u ∧ u < 18446744073709551616, .string (decZ u), [])
  | _, _ => none
noncomputable def tDi : List EntM := [eDi]
noncomputable abbrev EtDi : Env := envT Tryz.prog tDi
noncomputable def eIr : EntM := entC 28 fun a r => match a, r with
  | [.int .i64 n], [] => some (I64 n ∧ n ≠ -9223372036854775808, .string (itoaB n), [])
  | _, _ => none
theorem Di_round (u : Nat) (x : SD) (Inv : SD → Prop) (m : SD → Nat) : mev E0 noM 60 47 (0 :: pDi) false (codeOf Tryz.prog 47 (0 :: pDi)) ⟨mkOv (slDi x), 21, []⟩ none ⟨mkR [], 0⟩ (roundK 0 0 21 Inv m slDi (fun _ => []) (wsDi u) x) =
  (br (decide ((↑x.1 : Int) > (0 : Int))) (br (decide (1 + List.length (Array.toList (ByteArray.data (bs x.2))) <= 9223372036854775807)) (∃ j : SD, ((Inv j) /\ ((m j < m x)
  /\ (((↑j.1 : Int) = IntKind.wrap IntKind.u64 (Int.tdiv (↑x.1 : Int) (10 : Int))) /\ ((bs j.2 = ByteArray.mk (Array.mk [UInt8.ofNat (Int.toNat (IntKind.wrap IntKind.u8
  (IntKind.wrap IntKind.u64 ((48 : Int) + Int.tmod (↑x.1 : Int) (10 : Int)))))]) ++ bs x.2) /\ True))))) False) (br (strEq (bs x.2) (ByteArray.mk #[])) (br (decide (1 +
  List.length (Array.toList (ByteArray.data (bs x.2))) <= 9223372036854775807)) (∃ j : SD, ((Inv j) /\ ((m j < m x) /\ (((↑j.1 : Int) = IntKind.wrap IntKind.u64 (Int.tdiv
  (↑x.1 : Int) (10 : Int))) /\ ((bs j.2 = ByteArray.mk (Array.mk [UInt8.ofNat (Int.toNat (IntKind.wrap IntKind.u8 (IntKind.wrap IntKind.u64 ((48 : Int) + Int.tmod (↑x.1 :
  Int) (10 : Int)))))]) ++ bs x.2) /\ True))))) False) (∃ y : Unit, ((True) /\ ((bs (Lib.decDigits u) = bs x.2) /\ True))))) := by kernel_rfl
theorem Di_vc (u : Nat) : mcall E0 mDi 60 47 [.int .u64 (u : Nat)] ⟨mkR (nums 0 []), 0⟩ (retIs 0 (.string (bs (Lib.decDigits u))) []) =
  (∃ g : Nat, ((g < 18446744073709551616) /\ (((↑g : Int) = (↑u : Int)) /\ ((bs [] = ByteArray.mk #[]) /\ (∀ (y : Unit), ((True) → ((bs (Lib.decDigits u) = bs (Lib.decDigits
  g)) /\ True))))))) := by kernel_rfl
theorem Ir_vc (n : Int) (v : ByteArray) : mcall EtDi noM 60 28 [.int .i64 n] ⟨mkR (nums 0 []), 0⟩ (retIs 0 (.string v) []) =
  (br (decide (n < (0 : Int))) ((((True /\ True) /\ (True /\ (True /\ ((0 : Int) <= IntKind.wrap IntKind.u64 (IntKind.wrap IntKind.i64 ((0 : Int) - n)) /\ IntKind.wrap
  IntKind.u64 (IntKind.wrap IntKind.i64 ((0 : Int) - n)) < (18446744073709551616 : Int)))))) /\ (br (decide (1 + List.length (Array.toList (ByteArray.data (decZ
  (IntKind.wrap IntKind.u64 (IntKind.wrap IntKind.i64 ((0 : Int) - n)))))) <= 9223372036854775807)) ((v = ByteArray.mk #[45] ++ decZ (IntKind.wrap IntKind.u64 (IntKind.wrap
  IntKind.i64 ((0 : Int) - n)))) /\ True) False)) ((((True /\ True) /\ (True /\ (True /\ ((0 : Int) <= IntKind.wrap IntKind.u64 n /\ IntKind.wrap IntKind.u64 n <
  (18446744073709551616 : Int)))))) /\ ((v = decZ (IntKind.wrap IntKind.u64 n)) /\ True))) := by kernel_rfl
theorem wru64 (n : Int) : IntKind.wrap .u64 n = n % 18446744073709551616 := by
  simp only [IntKind.wrap, IntKind.bits, IntKind.signed]
  simp
def InvD (u : Nat) (x : SD) : Prop := x.u ≤ u ∧ ((x.s = [] ∧ x.u = u) ∨ (x.s ≠ [] ∧ Lib.decDigits u = (if x.u = 0 then [] else Lib.decDigits x.u) ++ x.s))
theorem dec_step (u : Nat) : Lib.decDigits u = (if u / 10 = 0 then [] else Lib.decDigits (u / 10)) ++ [UInt8.ofNat (48 + u % 10)] := by
  rw [Lib.decDigits]
  by_cases h : u < 10
  · rw [dif_pos h, if_pos (by omega), Nat.mod_eq_of_lt h]; rfl
  · rw [dif_neg h, if_neg (by omega)]
theorem dec_len : ∀ (k u : Nat), u < 10 ^ (k + 1) → (Lib.decDigits u).length ≤ k + 1
  | 0, u, h => by rw [Lib.decDigits, dif_pos (by omega)]; simp
  | k + 1, u, h => by
    rw [dec_step u, List.length_append]
    by_cases h0 : u / 10 = 0
    · rw [if_pos h0]; simp
    · rw [if_neg h0]
      have := dec_len k (u / 10) (by rw [Nat.pow_succ] at h; omega)
      simp only [List.length_cons, List.length_nil]; omega
theorem dec_20 (u : Nat) (h : u < 18446744073709551616) : (Lib.decDigits u).length ≤ 20 := dec_len 19 u (by omega)
theorem dig_u (u : Nat) : UInt8.ofNat (IntKind.u8.wrap (IntKind.u64.wrap (48 + ((u : Int)).tmod 10))).toNat = UInt8.ofNat (48 + u % 10) := by
  have e0 : ((u : Int)).tmod 10 = ((u % 10 : Nat) : Int) := by rw [Int.tmod_eq_emod_of_nonneg (by omega)]; rfl
  have e1 : IntKind.u64.wrap (48 + ((u % 10 : Nat) : Int)) = ((48 + u % 10 : Nat) : Int) := by rw [wru64]; omega
  rw [e0, e1, wru8_nat (by omega)]
  rfl
theorem Di_piece : PieceOk E0 0 (47, pDi, specDi) := by
  refine piece_loop mixed (calls_envN _) (lok_envN _) lm_none (n := 60) (by kernel_rfl) (fun u : Nat => (⟨u, []⟩ : SD)) InvD (fun u x => x.u + (if x.s = [] then 1 else 0)) (sl := fun _ x => slDi x) (rl := fun _ _ => []) (fun u hg => ⟨Nat.le_refl _, .inl ⟨rfl, rfl⟩⟩) (fun u x hg hi => ?_)
  refine (Di_round u x _ _).mpr ?_
  have hg : u < 18446744073709551616 := hg
  obtain ⟨v, s⟩ := x
  obtain ⟨hv, hi⟩ := hi
  simp only at hv hi
  have eN : (⟨#[]⟩ : ByteArray) = bs [] := rfl
  have hL : (bs s).data.toList.length = s.length := rfl
  have hlen : s.length ≤ 20 := by
    rcases hi with ⟨h1, _⟩ | ⟨_, h1⟩
    · rw [h1]; simp
    · have := dec_20 u hg
      rw [h1, List.length_append] at this; omega
  have w1 : IntKind.u64.wrap ((v : Int).tdiv 10) = ((v / 10 : Nat) : Int) := by
    rw [show (v : Int).tdiv 10 = ((v / 10 : Nat) : Int) by rw [Int.tdiv_eq_ediv_of_nonneg (by omega)]; rfl, wru64]; omega
  have step : (v > 0 ∨ s = []) → ∃ j : SD, InvD u j ∧ ((j.u + if j.s = [] then 1 else 0) < v + if s = [] then 1 else 0) ∧ (j.u : Int) = ((v / 10 : Nat) : Int) ∧ bs j.s = bs [UInt8.ofNat (48 + v % 10)] ++ bs s := by
    intro h
    refine ⟨⟨v / 10, UInt8.ofNat (48 + v % 10) :: s⟩, ⟨by simp only; omega, .inr ⟨by simp, ?_⟩⟩, ?_, rfl, by rw [bs_app]; rfl⟩
    · simp only
      rcases hi with ⟨h1, h2⟩ | ⟨h1, h2⟩
      · subst h1; subst h2
        exact dec_step v
      · have hv0 : v ≠ 0 := by rcases h with h | h; omega; exact absurd h h1
        rw [if_neg hv0, dec_step v] at h2
        rw [h2, List.append_assoc]; rfl
    · simp only
      rw [if_neg (by simp)]
      split
      · omega
      · rename_i hs
        rcases h with h | h
        · omega
        · exact absurd h hs
  simp only [ofNat_eq, toNat_cast, Nat.zero_add, Nat.add_zero, Nat.mul_one, List.drop_zero, bCells_len, bCells_drop, bCells_take, bCells_app, bCells_one, bCells_plain, List.length_replicate, List.length_append, List.length_take, List.length_drop, List.take_length, and_true, true_and, and_self, decide_true, List.length_nil, List.length_cons, Nat.sub_zero, dB_mk, dB_ro, List.take_zero, eN, strEq_bs, dig_u, w1, hL]
  have eB : (⟨⟨[UInt8.ofNat (48 + v % 10)]⟩⟩ : ByteArray) = bs [UInt8.ofNat (48 + v % 10)] := rfl
  simp only [eB]
  refine br_if (fun h => br_dec (by omega) (step (.inl (by omega)))) (fun h => br_if (fun h2 => br_dec (by omega) (step (.inr h2))) (fun h2 => ⟨(), ?_⟩))
  have hv0 : v = 0 := by omega
  rcases hi with ⟨h1, _⟩ | ⟨_, h1⟩
  · exact absurd h1 h2
  · rw [h1, if_pos hv0]; rfl
theorem Di_con (u : Nat) (h : u < 18446744073709551616) : Con Tryz.prog 47 [.int .u64 (u : Nat)] [] (.string (bs (Lib.decDigits u))) [] := by
  refine con_vc (E := E0) mixed (calls_envN _) (lok_envN _) (M := mDi) (lm_one Di_piece) (Di_vc u) ?_
  simp only [ofNat_eq, toNat_cast, Nat.zero_add, Nat.add_zero, Nat.mul_one, List.drop_zero, bCells_len, bCells_drop, bCells_take, bCells_app, bCells_one, bCells_plain, List.length_replicate, List.length_append, List.length_take, List.length_drop, List.take_length, and_true, true_and, and_self, decide_true, List.length_nil, List.length_cons, Nat.sub_zero, dB_mk, dB_ro, List.take_zero]
  exact ⟨u, h, rfl, rfl, fun _ _ => rfl⟩
theorem eDi_ok : EntOk Tryz.prog eDi := entC_ok (by
  intro a rows p v news h hp
  split at h <;> simp only [Option.some.injEq, Prod.mk.injEq, reduceCtorEq] at h
  obtain ⟨rfl, rfl, rfl⟩ := h
  rename_i u
  obtain ⟨m, rfl⟩ : ∃ m : Nat, u = m := ⟨u.toNat, by omega⟩
  unfold decZ; rw [sealV_eq]
  exact Di_con m (by omega))
theorem tDi_ok : ∀ x ∈ tDi, EntOk Tryz.prog x := all_cons eDi_ok (all_nil)
theorem Ir_con (n : Int) (h : I64 n) (h2 : n ≠ -9223372036854775808) : Con Tryz.prog 28 [.int .i64 n] [] (.string (itoaB n)) [] := by
  refine con_vc (E := EtDi) mixed (calls_envT tDi_ok) (lok_envT _ _) (M := noM) lm_none (Ir_vc n _) ?_
  unfold I64 at h
  simp only [ofNat_eq, toNat_cast, Nat.zero_add, Nat.add_zero, Nat.mul_one, List.drop_zero, bCells_len, bCells_drop, bCells_take, bCells_app, bCells_one, bCells_plain, List.length_replicate, List.length_append, List.length_take, List.length_drop, List.take_length, and_true, true_and, and_self, decide_true, List.length_nil, List.length_cons, Nat.sub_zero, dB_mk, dB_ro, List.take_zero]
  have zd : ∀ m : Nat, decZ (m : Int) = bs (Lib.decDigits m) := fun m => by unfold decZ; rw [sealV_eq]; rfl
  refine br_if (fun hn => ?_) (fun hn => ?_)
  · have e : IntKind.u64.wrap (IntKind.i64.wrap (0 - n)) = ((n.natAbs : Nat) : Int) := by
      rw [wr64_id (by unfold I64; omega), wru64]; omega
    rw [e, zd]
    refine ⟨⟨by omega, by omega⟩, br_dec ?_ ?_⟩
    · have := dec_20 n.natAbs (by omega)
      have hL : (bs (Lib.decDigits n.natAbs)).data.toList.length = (Lib.decDigits n.natAbs).length := rfl
      omega
    · rw [z_itoa, Lib.itoa, if_pos hn]
      show bs (45 :: Lib.decDigits n.natAbs) = bs [45] ++ bs (Lib.decDigits n.natAbs)
      rw [bs_app]; rfl
  · have e : IntKind.u64.wrap n = ((n.toNat : Nat) : Int) := by rw [wru64]; omega
    rw [e, zd]
    refine ⟨⟨by omega, by omega⟩, ?_⟩
    rw [z_itoa, Lib.itoa, if_neg hn]
    rfl
theorem eIr_ok : EntOk Tryz.prog eIr := entC_ok (by
  intro a rows p v news h hp
  split at h <;> simp only [Option.some.injEq, Prod.mk.injEq, reduceCtorEq] at h
  obtain ⟨rfl, rfl, rfl⟩ := h
  exact Ir_con _ hp.1 hp.2)
end Go.Proofs.YtnbfhihibgdgpaaGreatDoor.sl
