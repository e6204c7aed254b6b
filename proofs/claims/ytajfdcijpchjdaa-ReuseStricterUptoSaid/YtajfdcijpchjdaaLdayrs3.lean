/- A date read, and shown. -/
import Derived.Test.YtajfdcijpchjdaaSz9
import Derived.Test.YtajfdcijpchjdaaRows
import Derived.Test.YtajfdcijpchjdaaLdayp3
set_option maxRecDepth 20000
set_option linter.unusedSimpArgs false
set_option linter.unusedVariables false
namespace Go.Proofs.Ytajfdcijpchjdaa.tk
open Go Go.Ev Go.Sy Go.RowKit Go.Proofs.Ytajfdcijpchjdaa.gl
def rdI (s : ByteArray) : Int := ((rdL (L s)).getD 0 : Nat)
def rdB (s : ByteArray) : Bool := (rdL (L s)).isSome
def moB : ByteArray := ⟨#[74, 97, 110, 70, 101, 98, 77, 97, 114, 65, 112, 114, 77, 97, 121, 74, 117, 110, 74, 117, 108, 65, 117, 103, 83, 101, 112, 79, 99, 116, 78, 111, 118, 68, 101, 99]⟩
def cDs : FuncId → List Value → List Row → Option (Prop × Value × List Row)
  | 71, [.int .i64 y, .int .i64 m], [] => some (0 ≤ y ∧ 0 ≤ m, .int .i64 (lenI y m), [])
  | 72, [.int .i64 y, .int .i64 m], [] => some (1970 ≤ y ∧ y ≤ 3000 ∧ 0 ≤ m ∧ m ≤ 12, .int .i64 (bfI y m), [])
  | 69, [.string s], [] => some ((L s).length ≤ 6, .int .i64 (numI s), [])
  | 70, [.string l, .string s], [] => some (l = moB ∧ (L s).length ≤ maxLen, .int .i64 (fnI s), [])
  | 68, [.string s], [] => some ((L s).length ≤ maxLen, .bool (fmB s), [])
  | _, _, _ => none
def kDs (f : FuncId) : Bool := Nat.beq f 71 || Nat.beq f 72 || Nat.beq f 69 || Nat.beq f 70 || Nat.beq f 68
noncomputable abbrev EDs : Env := envC Try.prog cDs kDs
structure GSh where
  d : Nat
  r : Nat
  y : Nat
theorem rd_vc (l : List UInt8) (v : Int) (b : Bool) : mcall EDs noM 60 59 [.string (bs l)] ⟨mkR (nums 0 []), 0⟩ (retIs 0 (.tuple #[.int .i64 v, .bool b]) []) =
  let z1 := (↑(List.length (Array.toList (ByteArray.data (bs l)))) : Int); let z2 := ((3 : Int) * Int.tmod (IntKind.wrap IntKind.i64 (IntKind.wrap IntKind.i64 (bfI (numI
  (sub (bs l) 12 16)) (fnI (sub (bs l) 8 11)) + numI (sub (bs l) 5 7)) - (1 : Int))) (7 : Int)); let z3 := (decide ((0 : Int) <= (23 : Int) /\ (23 : Int) <= (25 : Int) /\
  (25 : Int) <= z1)); let z4 := (decide ((0 : Int) <= (20 : Int) /\ (20 : Int) <= (22 : Int) /\ (22 : Int) <= z1)); let z5 := (decide ((0 : Int) <= (8 : Int) /\ (8 : Int) <=
  (11 : Int) /\ (11 : Int) <= z1)); let z6 := (decide ((0 : Int) <= (↑0 : Int) /\ (↑0 : Int) <= (3 : Int) /\ (3 : Int) <= z1)); let z7 := (Value.string (sub (bs l) 23 25) =
  Value.string (sub (bs l) 23 25)); let z8 := (decide ((0 : Int) <= (12 : Int) /\ (12 : Int) <= (16 : Int) /\ (16 : Int) <= z1)); let z9 := (decide ((0 : Int) <= (17 : Int)
  /\ (17 : Int) <= (19 : Int) /\ (19 : Int) <= z1)); let z10 := (Value.string (sub (bs l) 20 22) = Value.string (sub (bs l) 20 22)); let z11 := (Value.string (sub (bs l) 8
  11) = Value.string (sub (bs l) 8 11)); let z12 := (Value.string (sub (bs l) 0 3) = Value.string (sub (bs l) 0 3)); ((((True /\ True) /\ (True /\ List.length (L (bs l)) <=
  9223372036854775807))) /\ (br (!fmB (bs l)) ((v = (0 : Int)) /\ ((b = false) /\ True)) (br z8 ((((True /\ True) /\ (True /\ List.length (L (sub (bs l) 12 16)) <= 6))) /\
  (br z5 ((((True /\ (True /\ True)) /\ (True /\ (ByteArray.mk #[74, 97, 110, 70, 101, 98, 77, 97, 114, 65, 112, 114, 77, 97, 121, 74, 117, 110, 74, 117, 108, 65, 117, 103,
  83, 101, 112, 79, 99, 116, 78, 111, 118, 68, 101, 99] = moB /\ List.length (L (sub (bs l) 8 11)) <= 9223372036854775807)))) /\ (br z8 ((Value.string (sub (bs l) 12 16) =
  Value.string (sub (bs l) 12 16)) /\ (br z5 (z11 /\ (br z5 (z11 /\ (br (decide (numI (sub (bs l) 12 16) < (1970 : Int))) ((v = (0 : Int)) /\ ((b = false) /\ True)) (br
  (decide (numI (sub (bs l) 12 16) > (2037 : Int))) ((v = (0 : Int)) /\ ((b = false) /\ True)) (br (decide (fnI (sub (bs l) 8 11) < (0 : Int))) ((v = (0 : Int)) /\ ((b =
  false) /\ True)) (br (decide ((0 : Int) <= (5 : Int) /\ (5 : Int) <= (7 : Int) /\ (7 : Int) <= z1)) ((((True /\ True) /\ (True /\ List.length (L (sub (bs l) 5 7)) <= 6)))
  /\ (br (decide (numI (sub (bs l) 5 7) < (1 : Int))) ((v = (0 : Int)) /\ ((b = false) /\ True)) ((((True /\ (True /\ True)) /\ (True /\ ((0 : Int) <= numI (sub (bs l) 12
  16) /\ (0 : Int) <= fnI (sub (bs l) 8 11))))) /\ (br (decide (numI (sub (bs l) 5 7) > lenI (numI (sub (bs l) 12 16)) (fnI (sub (bs l) 8 11)))) ((v = (0 : Int)) /\ ((b =
  false) /\ True)) (br z9 ((((True /\ True) /\ (True /\ List.length (L (sub (bs l) 17 19)) <= 6))) /\ (br z4 ((((True /\ True) /\ (True /\ List.length (L (sub (bs l) 20 22))
  <= 6))) /\ (br z3 ((((True /\ True) /\ (True /\ List.length (L (sub (bs l) 23 25)) <= 6))) /\ (br z9 ((Value.string (sub (bs l) 17 19) = Value.string (sub (bs l) 17 19))
  /\ (br z4 (z10 /\ (br z4 (z10 /\ (br z3 (z7 /\ (br z3 (z7 /\ (br z3 (z7 /\ (br (decide (numI (sub (bs l) 17 19) > (23 : Int))) ((v = (0 : Int)) /\ ((b = false) /\ True))
  (br (decide (numI (sub (bs l) 20 22) > (59 : Int))) ((v = (0 : Int)) /\ ((b = false) /\ True)) (br (decide (numI (sub (bs l) 23 25) > (59 : Int))) ((v = (0 : Int)) /\ ((b
  = false) /\ True)) ((((True /\ (True /\ True)) /\ (True /\ ((1970 : Int) <= numI (sub (bs l) 12 16) /\ (numI (sub (bs l) 12 16) <= (3000 : Int) /\ ((0 : Int) <= fnI (sub
  (bs l) 8 11) /\ fnI (sub (bs l) 8 11) <= (12 : Int))))))) /\ (br (decide ((0 : Int) <= IntKind.wrap IntKind.i64 z2 /\ IntKind.wrap IntKind.i64 z2 <= IntKind.wrap
  IntKind.i64 (IntKind.wrap IntKind.i64 z2 + (3 : Int)) /\ IntKind.wrap IntKind.i64 (IntKind.wrap IntKind.i64 z2 + (3 : Int)) <= (21 : Int))) (br z6 (br z6 (z12 /\ (br z6
  (z12 /\ (br (!strEq (sub (ByteArray.mk #[84, 104, 117, 70, 114, 105, 83, 97, 116, 83, 117, 110, 77, 111, 110, 84, 117, 101, 87, 101, 100]) (Int.toNat (IntKind.wrap
  IntKind.i64 z2)) (Int.toNat (IntKind.wrap IntKind.i64 (IntKind.wrap IntKind.i64 z2 + (3 : Int))))) (sub (bs l) 0 3)) ((v = (0 : Int)) /\ ((b = false) /\ True)) ((v =
  IntKind.wrap IntKind.i64 (IntKind.wrap IntKind.i64 (IntKind.wrap IntKind.i64 (IntKind.wrap IntKind.i64 (IntKind.wrap IntKind.i64 (bfI (numI (sub (bs l) 12 16)) (fnI (sub
  (bs l) 8 11)) + numI (sub (bs l) 5 7)) - (1 : Int)) * (86400 : Int)) + IntKind.wrap IntKind.i64 (IntKind.wrap IntKind.i64 (IntKind.wrap IntKind.i64 (numI (sub (bs l) 17
  19) * (60 : Int)) + numI (sub (bs l) 20 22)) * (60 : Int))) + numI (sub (bs l) 23 25))) /\ ((b = true) /\ True)))) False)) False) False) False)))))) False)) False))
  False)) False)) False)) False)) False)) False)) False))))) False))))) False)) False)) False)) False)) False))) := by kernel_rfl
theorem cDs_ok : ∀ f a rows p v news, cDs f a rows = some (p, v, news) → p → Con Try.prog f a rows v (rows ++ news) := by
  intro f a rows p v news h hp
  unfold cDs at h
  split at h <;> simp only [Option.some.injEq, Prod.mk.injEq, reduceCtorEq] at h <;> obtain ⟨rfl, rfl, rfl⟩ := h
  · rename_i y m
    have := ln_con y.toNat m.toNat
    rw [Int.toNat_of_nonneg hp.1, Int.toNat_of_nonneg hp.2] at this
    exact this
  · rename_i y m
    have := bf_con y.toNat m.toNat (by omega) (by omega) (by omega)
    rw [Int.toNat_of_nonneg (by omega), Int.toNat_of_nonneg (by omega)] at this
    exact this
  · exact nm_con (L _) hp
  · obtain ⟨rfl, h2⟩ := hp
    exact fd_con (L _) h2
  · exact fm_con (L _) hp
theorem sub_sl (l : List UInt8) (a b : Nat) : sub (bs l) a b = bs (sl l a b) := Eq.trans rfl rfl
theorem L_bsd (l : List UInt8) : L (bs l) = l := Eq.trans rfl rfl
theorem numI_bs (l : List UInt8) : numI (bs l) = (numL l : Nat) := Eq.trans rfl rfl
theorem sl_len (l : List UInt8) (a b : Nat) : (sl l a b).length ≤ b - a := by unfold sl; rw [List.length_take]; omega
theorem bfI_nat (a b : Nat) : bfI (a : Nat) (b : Nat) = (befN a b : Nat) := by unfold bfI; rw [Int.toNat_natCast, Int.toNat_natCast]
theorem lenI_nat (a b : Nat) : lenI (a : Nat) (b : Nat) = (lenN a b : Nat) := by unfold lenI; rw [Int.toNat_natCast, Int.toNat_natCast]
theorem sub_nm (l : List UInt8) (i : Nat) : sub (bs l) (3 * (i : Int)).toNat (3 * (i : Int) + 3).toNat = bs (nm3 l i) := by
  rw [sub_bs, show (3 * (i : Int)).toNat = 3 * i by omega, show (3 * (i : Int) + 3).toNat = 3 * i + 3 by omega, show 3 * i + 3 - 3 * i = 3 by omega]; rfl
theorem wkB : (⟨#[84, 104, 117, 70, 114, 105, 83, 97, 116, 83, 117, 110, 77, 111, 110, 84, 117, 101, 87, 101, 100]⟩ : ByteArray) = bs wkL := rfl
theorem moB_bs : (⟨#[74, 97, 110, 70, 101, 98, 77, 97, 114, 65, 112, 114, 77, 97, 121, 74, 117, 110, 74, 117, 108, 65, 117, 103, 83, 101, 112, 79, 99, 116, 78, 111, 118, 68, 101, 99]⟩ : ByteArray) = bs moL := rfl
set_option maxRecDepth 10000 in
theorem Rd_con (l : List UInt8) (hl : l.length ≤ maxLen) : Con Try.prog 59 [.string (bs l)] [] (.tuple #[.int .i64 ((rdL l).getD 0 : Nat), .bool (rdL l).isSome]) [] := by
  refine con_vc (E := EDs) mixed (calls_envC cDs_ok) (lok_envC _ _ _) (M := noM) lm_none (rd_vc l _ _) ?_
  have hm : maxLen = 9223372036854775807 := by unfold maxLen; rfl
  simp only [ofNat_eq, toNat_cast, Nat.zero_add, Nat.add_zero, Nat.mul_one, List.drop_zero, bCells_len, bCells_drop, bCells_take, bCells_app, bCells_one, bCells_plain, List.length_replicate, List.length_append, List.length_take, List.length_drop, List.take_length, and_true, true_and, and_self, decide_true, List.length_nil, List.length_cons, Nat.sub_zero, dB_mk, dB_ro, List.take_zero, bs_dd]
  have hnone : rdL l = none → ((((rdL l).getD 0 : Nat) : Int) = 0 ∧ (rdL l).isSome = false) := fun h => by rw [h]; exact ⟨rfl, rfl⟩
  refine ⟨by rw [L_bs]; omega, br_intro (fun h => hnone ?_) (fun h => ?_)⟩
  · have e : fmB (bs l) = fmd l := rfl
    have h : fmd l = false := by rw [e] at h; simpa using h
    unfold rdL; rw [if_neg (by simp [h])]
  have e : fmB (bs l) = fmd l := rfl
  have hf : fmd l = true := by rw [e] at h; simpa using h
  have h29 := ((fmd_iff l).1 hf).1
  have hr0 : rdL l = (fndO (sl l 8 11)).bind (rdQ l) := by unfold rdL; rw [if_pos hf]
  have s1 := sl_len l 12 16
  have s2 := sl_len l 8 11
  have s3 := sl_len l 5 7
  have s4 := sl_len l 17 19
  have s5 := sl_len l 20 22
  have s6 := sl_len l 23 25
  have s7 : sub (bs l) 0 3 = bs (sl l 0 3) := sub_sl _ _ _
  simp only [sub_sl, numI_bs, L_bsd, wkB, moB_bs]
  simp (disch := omega) only [brT]
  have hQ : ∀ m, rdQ l m = (if numL (sl l 12 16) < 1970 ∨ 2037 < numL (sl l 12 16) then none
    else if numL (sl l 5 7) < 1 ∨ lenN (numL (sl l 12 16)) m < numL (sl l 5 7) then none
    else if 23 < numL (sl l 17 19) ∨ 59 < numL (sl l 20 22) ∨ 59 < numL (sl l 23 25) then none
    else if nm3 wkL (dayOf (numL (sl l 12 16)) m (numL (sl l 5 7)) % 7) ≠ sl l 0 3 then none
    else some (dayOf (numL (sl l 12 16)) m (numL (sl l 5 7)) * 86400 + (numL (sl l 17 19) * 60 + numL (sl l 20 22)) * 60 + numL (sl l 23 25))) := fun m => rfl
  generalize numL (sl l 12 16) = y at *
  generalize numL (sl l 5 7) = d at *
  generalize numL (sl l 17 19) = hh at *
  generalize numL (sl l 20 22) = mi at *
  generalize numL (sl l 23 25) = ss at *
  refine ⟨by omega, ⟨rfl, by omega⟩, ?_⟩
  cases hfn : fndO (sl l 8 11) with
  | none =>
    have hfi : fnI (bs (sl l 8 11)) = -1 := by unfold fnI; rw [L_bs, hfn]
    have hn : rdL l = none := by rw [hr0, hfn]; rfl
    rw [hfi]
    exact br_if (fun _ => hnone hn) (fun _ => br_if (fun _ => hnone hn) (fun _ => br_dec (by omega) (hnone hn)))
  | some m =>
    have hfi : fnI (bs (sl l 8 11)) = (m : Nat) := by unfold fnI; rw [L_bs, hfn]
    obtain ⟨m1, _⟩ := fnd_some hfn
    rw [hfn, Option.bind_some, hQ] at hr0
    simp only [hfi, lenI_nat, bfI_nat]
    have hl := len_le y m
    refine br_if (fun a => hnone (by rw [hr0, if_pos (by omega)])) (fun a => br_if (fun b => hnone (by rw [hr0, if_pos (by omega)])) (fun b => br_nd (by omega) ⟨by omega, ?_⟩))
    rw [if_neg (by omega)] at hr0
    refine br_if (fun c => hnone (by rw [hr0, if_pos (by omega)])) (fun c => ⟨⟨by omega, by omega⟩, br_if (fun e => hnone (by rw [hr0, if_pos (by omega)])) (fun e => ⟨by omega, by omega, by omega, ?_⟩)⟩)
    rw [if_neg (by omega)] at hr0
    refine br_if (fun f => hnone (by rw [hr0, if_pos (by omega)])) (fun f => br_if (fun f2 => hnone (by rw [hr0, if_pos (by omega)])) (fun f2 => br_if (fun f3 => hnone (by rw [hr0, if_pos (by omega)])) (fun f3 => ⟨⟨by omega, by omega, by omega, by omega⟩, ?_⟩)))
    rw [if_neg (by omega)] at hr0
    have hb : befN y m ≤ 100000 := by have := cum_le y m (by omega); unfold befN; omega
    have hD : IntKind.i64.wrap (IntKind.i64.wrap ((befN y m : Nat) + (d : Nat) : Int) - 1) = ((dayOf y m d : Nat) : Int) := by
      rw [wr64_id (n := ((befN y m : Nat) + (d : Nat) : Int)) (by unfold I64; omega), wr64_id (by unfold I64; omega)]; unfold dayOf; omega
    have hD2 : dayOf y m d ≤ 200000 := by unfold dayOf; omega
    rw [hD]
    generalize dayOf y m d = D at *
    have q7 : (D : Int).tmod 7 = ((D % 7 : Nat) : Int) := by rw [Int.tmod_eq_emod_of_nonneg (by omega)]; omega
    rw [q7, wr64_id (n := 3 * ((D % 7 : Nat) : Int)) (by unfold I64; omega), wr64_id (n := 3 * ((D % 7 : Nat) : Int) + 3) (by unfold I64; omega)]
    rw [show bs (sl wkL (3 * ((D % 7 : Nat) : Int)).toNat (3 * ((D % 7 : Nat) : Int) + 3).toNat) = bs (nm3 wkL (D % 7)) from sub_nm wkL (D % 7)]
    rw [strEq_bs]
    refine br_dec (by omega) (br_intro (fun g => hnone ?_) (fun g => ?_))
    · have g : nm3 wkL (D % 7) ≠ sl l 0 3 := by simpa using g
      rw [hr0, if_pos g]
    · have g : nm3 wkL (D % 7) = sl l 0 3 := by simpa using g
      rw [if_neg (by simp [g])] at hr0
      rw [hr0]
      refine ⟨?_, rfl⟩
      rw [wr64_id (n := (D : Int) * 86400) (by unfold I64; omega), wr64_id (n := (hh : Int) * 60) (by unfold I64; omega), wr64_id (n := (hh : Int) * 60 + mi) (by unfold I64; omega), wr64_id (n := ((hh : Int) * 60 + mi) * 60) (by unfold I64; omega), wr64_id (n := (D : Int) * 86400 + ((hh : Int) * 60 + mi) * 60) (by unfold I64; omega), wr64_id (by unfold I64; omega)]
      simp only [Option.getD_some]; omega
end Go.Proofs.Ytajfdcijpchjdaa.tk
