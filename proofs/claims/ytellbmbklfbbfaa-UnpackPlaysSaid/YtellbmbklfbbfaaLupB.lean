/- A block's reader: texts. -/
import Derived.Test.YtellbmbklfbbfaaSz9
import Derived.Test.YtellbmbklfbbfaaRows
import Derived.Test.YtellbmbklfbbfaaLupA
set_option maxRecDepth 20000
set_option linter.unusedSimpArgs false
set_option linter.unusedVariables false
namespace Go.Proofs.Ytellbmbklfbbfaa.up
open Go Go.Ev Go.Sy Go.RowKit Go.Proofs.Ytellbmbklfbbfaa.gl Go.Proofs.Ytellbmbklfbbfaa.tk Go.Proofs.Ytellbmbklfbbfaa.hf Go.Proofs.Ytellbmbklfbbfaa.s3 Go.Proofs.Ytellbmbklfbbfaa.tb
def IsWs (r : Row) (w : Nat) : Prop := ∃ W : List Wr, r = gOwn enW W ∧ w = W.length
def IsFs (r : Row) : Prop := ∃ F : List Fl, r = gOwn enF F
noncomputable def eNu : EntM := (33, fun a r => match a, r with
  | [.pointer (some ⟨0, 0, none⟩), .int .i64 n], [⟨[.pointer (some ⟨1, 0, none⟩), .slice (some ⟨2, 0, none⟩) m 1, .int .i64 i, .slice (some ⟨3, 0, none⟩) w 3, .int .i64 sum, .int .i64 sz], false, .cells false⟩, ⟨[.pointer (some ⟨4, 0, none⟩), .int .i64 top, .int .i64 list, .bool bad], false, .cells false⟩, r2, r3, ⟨[.slice (some ⟨5, 0, none⟩) k 2, .int .i64 s, .int .i64 mo], false, .cells false⟩, r5] =>
    some ((IsAt r2 m i ∧ IsN n) ∧ IsWs r3 w ∧ IsFs r5, mkE (nuB r2 i n) (.int .i64 (nuV r2 i n)) (nuE r2 i n) i, 6, [(0, rd0 m (nuA r2 i n) w sum sz 3), (1, rd1 top list bad 4), (2, r2), (3, r3), (4, rd4 k s mo 5), (5, r5)])
  | _, _ => none)
def txR (b : List UInt8) (i : Nat) : Rs (List UInt8) :=
  if b.length ≤ i then ⟨3, i, []⟩
  else if (nuR b i 7).e ≠ 0 then ⟨(nuR b i 7).e, i, []⟩
  else if 65536 < (nuR b i 7).v then ⟨2, (nuR b i 7).p, []⟩
  else if b.length < (nuR b i 7).p + (nuR b i 7).v then ⟨3, (nuR b i 7).p, []⟩
  else if atB b i < 128 then ⟨0, (nuR b i 7).p + (nuR b i 7).v, (b.drop (nuR b i 7).p).take (nuR b i 7).v⟩
  else if decE ((b.drop (nuR b i 7).p).take (nuR b i 7).v) ≠ 0 then ⟨(decE ((b.drop (nuR b i 7).p).take (nuR b i 7).v)).toNat, (nuR b i 7).p + (nuR b i 7).v, []⟩
  else if 65536 < (decT ((b.drop (nuR b i 7).p).take (nuR b i 7).v)).length then ⟨2, (nuR b i 7).p + (nuR b i 7).v, []⟩
  else ⟨0, (nuR b i 7).p + (nuR b i 7).v, decT ((b.drop (nuR b i 7).p).take (nuR b i 7).v)⟩
noncomputable def txB : Row → Int → Bool := sealV fun r i => isOk (txR (dB r) i.toNat).e
noncomputable def txV : Row → Int → ByteArray := sealV fun r i => bs (txR (dB r) i.toNat).v
noncomputable def txE : Row → Int → Int := sealV fun r i => ((txR (dB r) i.toNat).e : Nat)
noncomputable def txA : Row → Int → Int := sealV fun r i => ((txR (dB r) i.toNat).p : Nat)
noncomputable def eTx : EntM := (45, fun a r => match a, r with
  | [.pointer (some ⟨0, 0, none⟩)], [⟨[.pointer (some ⟨1, 0, none⟩), .slice (some ⟨2, 0, none⟩) m 1, .int .i64 i, .slice (some ⟨3, 0, none⟩) w 3, .int .i64 sum, .int .i64 sz], false, .cells false⟩, ⟨[.pointer (some ⟨4, 0, none⟩), .int .i64 top, .int .i64 list, .bool bad], false, .cells false⟩, r2, r3, ⟨[.slice (some ⟨5, 0, none⟩) k 2, .int .i64 s, .int .i64 mo], false, .cells false⟩, r5] =>
    some (IsAt r2 m i ∧ IsWs r3 w ∧ IsFs r5, mkE (txB r2 i) (.string (txV r2 i)) (txE r2 i) (txA r2 i), 6, [(0, rd0 m (txA r2 i) w sum sz 3), (1, rd1 top list bad 4), (2, r2), (3, r3), (4, rd4 k s mo 5), (5, r5)])
  | _, _ => none)
noncomputable def tTx : List EntM := [eNu, eDeP]
noncomputable abbrev EtTx : Env := envT Try.prog tTx
theorem Tx_vc (b : List UInt8) (i : Int) (W : List Wr) (sum sz top list : Int) (bad : Bool) (k : Nat) (s m : Int) (F : List Fl) (ok : Bool) (v : ByteArray) (e a : Int) : mcall EtTx noM 60 45 [.pointer (some ⟨0, 0, none⟩)] ⟨mkR (nums 0 (rdL b i W sum sz top list bad k s m F)), 6⟩ (retIsM 6 (mkE ok (.string v) e a) 6 [(0, rd0 b.length a W.length sum sz 3), (1, rd1 top list bad 4), (2, bRo b), (3, gOwn enW W), (4, rd4 k s m 5), (5, gOwn enF F)]) =
  let z1 := (Row.mk (List.take (List.length b * 1) (List.drop 0 (bCells b))) true (Ob.cells true)); let z2 := ((0 = 0) /\ ((List.length W = List.length W) /\ ((sum = sum) /\
  ((sz = sz) /\ ((0 = 0) /\ ((top = top) /\ ((list = list) /\ ((bad = bad) /\ ((Eq (α := List Value) (bCells b) (bCells b)) /\ ((Plain (bCells b)) /\ ((Eq (α := List Value)
  (gC enW W) (gC enW W)) /\ ((Plain (gC enW W)) /\ ((0 = 0) /\ ((k = k) /\ ((s = s) /\ ((m = m) /\ ((Eq (α := List Value) (gC enF F) (gC enF F)) /\ ((Plain (gC enF F)) /\
  True)))))))))))))))))); let z3 := (Int.toNat (IntKind.wrap IntKind.i64 (nuA z1 i (7 : Int) + nuV z1 i (7 : Int))) - Int.toNat (nuA z1 i (7 : Int))); let z4 := (Value.slice
  (some (Addr.mk 2 0 none)) (List.length b) 1 = Value.slice (some (Addr.mk 2 0 none)) (List.length b) 1); let z11 := (List.drop (0 + Int.toNat (nuA z1 i (7 : Int)) * 1)
  (bCells b)); let z5 := (Row.mk (List.take (z3 * 1) z11) true (Ob.cells true)); let z6 := ((0 = 0) /\ ((0 = 0) /\ ((List.length b = List.length b) /\ ((a = IntKind.wrap
  IntKind.i64 (nuA z1 i (7 : Int) + nuV z1 i (7 : Int))) /\ z2)))); let z7 := (Value.int IntKind.i64 (nuA z1 i (7 : Int)) = Value.int IntKind.i64 (nuA z1 i (7 : Int))); let
  z8 := (decide ((0 : Int) <= nuA z1 i (7 : Int) /\ nuA z1 i (7 : Int) <= IntKind.wrap IntKind.i64 (nuA z1 i (7 : Int) + nuV z1 i (7 : Int)) /\ IntKind.wrap IntKind.i64 (nuA
  z1 i (7 : Int) + nuV z1 i (7 : Int)) <= (↑(List.length b) : Int))); let z9 := ((0 = 0) /\ ((0 = 0) /\ ((List.length b = List.length b) /\ ((a = nuA z1 i (7 : Int)) /\
  z2)))); let z10 := (Eq (α := Option Value) ((bCells b)[0 + Int.toNat i * 1]?) (some (Value.int IntKind.u8 (cellI (bCells b) (0 + Int.toNat i * 1))))); let z12 :=
  (Value.int IntKind.i64 i = Value.int IntKind.i64 i); let z13 := (some (Addr.mk 2 (0 + Int.toNat (nuA z1 i (7 : Int)) * 1) none)); (br (!decide (i < Int.ofNat (List.length
  b))) (z12 /\ (z4 /\ ((ok = false) /\ (((66 = 66 /\ (e = (3 : Int) /\ a = i))) /\ ((0 = 0) /\ ((0 = 0) /\ ((List.length b = List.length b) /\ ((a = i) /\ z2)))))))) (z12 /\
  (z4 /\ (br (decide ((0 : Int) <= i /\ i < (↑(List.length b) : Int))) (z10 /\ (z4 /\ (z12 /\ (z10 /\ ((Value.int IntKind.u8 (cellI (bCells b) (0 + Int.toNat i * 1)) =
  Value.int IntKind.u8 (cellI (bCells b) (0 + Int.toNat i * 1))) /\ ((((True /\ (True /\ True)) /\ (((True /\ ((0 + List.length b * 1 <= List.length (bCells b) /\ Plain
  (List.take (List.length b * 1) (List.drop 0 (bCells b)))) /\ (True /\ (True /\ (True /\ (True /\ True)))))) /\ ((True /\ (True /\ (True /\ (True /\ True)))) /\ (True /\
  (Plain (gC enW W) /\ ((True /\ (True /\ (True /\ True))) /\ (Plain (gC enF F) /\ True)))))) /\ ((Plain (gC enW W) /\ (Plain (gC enF F) /\ True)) /\ ((IsAt z1 (List.length
  b) i /\ IsN (7 : Int)) /\ (IsWs (Row.mk (gC enW W) false (Ob.cells true)) (List.length W) /\ IsFs (Row.mk (gC enF F) false (Ob.cells true)))))))) /\ (br (nuB z1 i (7 :
  Int)) (br (!decide (nuV z1 i (7 : Int) <= (65536 : Int))) ((ok = false) /\ (((66 = 66 /\ (e = (2 : Int) /\ a = nuA z1 i (7 : Int)))) /\ z9)) (br (!decide (nuV z1 i (7 :
  Int) <= IntKind.wrap IntKind.i64 (Int.ofNat (List.length b) - nuA z1 i (7 : Int)))) (z4 /\ (z7 /\ ((ok = false) /\ (((66 = 66 /\ (e = (3 : Int) /\ a = nuA z1 i (7 :
  Int)))) /\ z9)))) (z4 /\ (z7 /\ (br z8 (z4 /\ (z7 /\ (z7 /\ (br z8 ((Value.slice z13 z3 1 = Value.slice z13 z3 1) /\ (br (!decide (cellI (bCells b) (0 + Int.toNat i * 1) ≥
  (128 : Int))) (br (decide (0 + Int.toNat (nuA z1 i (7 : Int)) * 1 + z3 <= List.length (bCells b))) ((AllB (List.take z3 z11)) /\ ((ok = true) /\ ((v = ByteArray.mk
  (Array.mk (List.map bOf (List.take z3 z11)))) /\ z6))) False) (((((0 + Int.toNat (nuA z1 i (7 : Int)) * 1 + z3 * 1 <= List.length (bCells b) /\ Plain (List.take (z3 * 1)
  z11)) /\ True) /\ ((True /\ True) /\ (True /\ (IsB z5 z3 /\ Int.toNat (IntKind.wrap IntKind.i64 (nuA z1 i (7 : Int) + nuV z1 i (7 : Int))) - Int.toNat (nuA z1 i (7 : Int))
  <= 1048576))))) /\ (br (!deE z5 == (0 : Int)) ((ok = false) /\ (((66 = 66 /\ (e = deE z5 /\ a = IntKind.wrap IntKind.i64 (nuA z1 i (7 : Int) + nuV z1 i (7 : Int))))) /\
  z6)) (br (!decide (Int.ofNat (List.length (Array.toList (ByteArray.data (deT z5)))) <= (65536 : Int))) ((ok = false) /\ (((66 = 66 /\ (e = (2 : Int) /\ a = IntKind.wrap
  IntKind.i64 (nuA z1 i (7 : Int) + nuV z1 i (7 : Int))))) /\ z6)) ((ok = true) /\ ((v = deT z5) /\ z6))))))) False)))) False))))) ((ok = false) /\ (((66 = 66 /\ (e = nuE z1
  i (7 : Int) /\ a = i))) /\ z9))))))))) False)))) := by kernel_rfl
theorem eNu_ok : EntOk Try.prog eNu := by
  intro a rows p v n' rl he hp
  simp only [eNu] at he
  split at he
  · simp only [Option.some.injEq, Prod.mk.injEq] at he
    obtain ⟨rfl, rfl, rfl, rfl⟩ := he
    rename_i n m i w sum sz top list bad r2 r3 k s mo r5
    obtain ⟨⟨⟨b, rfl, rfl, hb, hi, hl⟩, h1, h8⟩, ⟨W, rfl, rfl⟩, ⟨F, rfl⟩⟩ := hp
    have := Nu_con b i.toNat n.toNat W sum sz top list bad k s mo F hb
    unfold nuB nuV nuE nuA
    rw [sealV_eq, sealV_eq, sealV_eq, sealV_eq, dB_ro]
    rw [show ((i.toNat : Nat) : Int) = i by omega, show ((n.toNat : Nat) : Int) = n by omega] at this
    exact this
  · simp at he
theorem tTx_ok : ∀ x ∈ tTx, EntOk Try.prog x := all_cons eNu_ok (all_cons eDeP_ok (all_nil))
theorem nu_mk (b : List UInt8) (i n : Nat) : nuB (bRo b) i n = isOk (nuR b i n).e ∧ nuV (bRo b) i n = ((nuR b i n).v : Nat) ∧ nuE (bRo b) i n = ((nuR b i n).e : Nat) ∧ nuA (bRo b) i n = ((nuR b i n).p : Nat) := by
  unfold nuB nuV nuE nuA
  rw [sealV_eq, sealV_eq, sealV_eq, sealV_eq, dB_ro]
  exact ⟨rfl, rfl, rfl, rfl⟩
theorem bTake (b : List UInt8) : List.take b.length (bCells b) = bCells b := List.take_of_length_le (by rw [bCells_len]; omega)
theorem bRo_eq (b : List UInt8) : (({ cells := bCells b, ro := true, ob := Ob.cells true }) : Row) = bRo b := rfl
theorem isWs (W : List Wr) : IsWs ({ cells := gC enW W, ro := false, ob := Ob.cells true } : Row) W.length := ⟨W, rfl, rfl⟩
theorem isFs (W : List Fl) : IsFs ({ cells := gC enF W, ro := false, ob := Ob.cells true } : Row) := ⟨W, rfl⟩
theorem isOk_f {n : Nat} (h : n ≠ 0) : isOk n = false := by simp [isOk, h]
theorem isAt (b : List UInt8) (i : Nat) (hb : b.length ≤ 1048576) (hi : i ≤ b.length) : IsAt (bRo b) b.length (i : Nat) := ⟨b, rfl, rfl, hb, by omega, by omega⟩
theorem Tx_con (b : List UInt8) (i : Nat) (W : List Wr) (sum sz top list : Int) (bad : Bool) (k : Nat) (s m : Int) (F : List Fl) (hb : b.length ≤ 1048576) (hi : i ≤ b.length) :
    ConM Try.prog 45 [.pointer (some ⟨0, 0, none⟩)] (rdL b (i : Nat) W sum sz top list bad k s m F) (mkE (isOk (txR b i).e) (.string (bs (txR b i).v)) ((txR b i).e : Nat) ((txR b i).p : Nat)) 6 [(0, rd0 b.length ((txR b i).p : Nat) W.length sum sz 3), (1, rd1 top list bad 4), (2, bRo b), (3, gOwn enW W), (4, rd4 k s m 5), (5, gOwn enF F)] := by
  refine conM_vc (E := EtTx) tk.mixed (calls_envT tTx_ok) (lok_envT _ _) (M := noM) lm_none (Tx_vc b i W sum sz top list bad k s m F _ _ _ _) ?_
  obtain ⟨n1, n2, n3, n4⟩ := nu_mk b i 7
  have cN : ((7 : Nat) : Int) = 7 := rfl
  rw [cN] at n1 n2 n3 n4
  have pb := bCells_plain b
  have pw := plW W
  have pf := fPl F
  have hn7 : IsN 7 := by unfold IsN; omega
  simp only [ofNat_eq, toNat_cast, Nat.zero_add, Nat.add_zero, Nat.mul_one, List.drop_zero, bCells_len, bCells_drop, bCells_take, bCells_app, bCells_one, bCells_plain, List.length_replicate, List.length_append, List.length_take, List.length_drop, List.take_length, and_true, true_and, and_self, decide_true, List.length_nil, List.length_cons, Nat.sub_zero, dB_mk, dB_ro, List.take_zero, Nat.mul_one, List.drop_zero, bTake, bRo_eq, n1, n2, n3, n4, bCells_len, Nat.zero_add, pb, pw, pf, isWs, isFs, hn7, Nat.le_refl, and_true, true_and]
  by_cases h0 : b.length ≤ i
  · have e : txR b i = ⟨3, i, []⟩ := if_pos h0
    rw [e]
    exact br_b (by simp; omega) ⟨rfl, ⟨rfl, rfl⟩, rfl⟩
  refine br_nb (by simp; omega) (br_dec (by omega) ⟨bCells_at (by omega), bCells_at (by omega), isAt b i hb hi, ?_⟩)
  by_cases h1 : (nuR b i 7).e ≠ 0
  · have e : txR b i = ⟨(nuR b i 7).e, i, []⟩ := by unfold txR; rw [if_neg h0, if_pos h1]
    have ep : (nuR b i 7).p = i := by unfold nuR at h1 ⊢; exact if_neg h1
    rw [e, ep]
    exact br_nb (isOk_f h1) ⟨isOk_f h1, ⟨rfl, rfl⟩, rfl⟩
  obtain ⟨s1, s2, s3⟩ := nu_spec b i 7 (by omega) (by omega)
  refine br_b (by simp [isOk]; omega) ?_
  have tx : txR b i = if 65536 < (nuR b i 7).v then ⟨2, (nuR b i 7).p, []⟩
    else if b.length < (nuR b i 7).p + (nuR b i 7).v then ⟨3, (nuR b i 7).p, []⟩
    else if atB b i < 128 then ⟨0, (nuR b i 7).p + (nuR b i 7).v, (b.drop (nuR b i 7).p).take (nuR b i 7).v⟩
    else if decE ((b.drop (nuR b i 7).p).take (nuR b i 7).v) ≠ 0 then ⟨(decE ((b.drop (nuR b i 7).p).take (nuR b i 7).v)).toNat, (nuR b i 7).p + (nuR b i 7).v, []⟩
    else if 65536 < (decT ((b.drop (nuR b i 7).p).take (nuR b i 7).v)).length then ⟨2, (nuR b i 7).p + (nuR b i 7).v, []⟩
    else ⟨0, (nuR b i 7).p + (nuR b i 7).v, decT ((b.drop (nuR b i 7).p).take (nuR b i 7).v)⟩ := by
    unfold txR; rw [if_neg h0, if_neg h1]
  generalize (nuR b i 7).p = p at *
  generalize (nuR b i 7).v = v at *
  by_cases h2 : 65536 < v
  · rw [tx, if_pos h2]
    exact br_b (by simp; omega) ⟨rfl, ⟨rfl, rfl⟩, rfl⟩
  refine br_nb (by simp; omega) ?_
  have w1 : IntKind.i64.wrap ((b.length : Int) - p) = ((b.length - p : Nat) : Int) := by rw [wr64_id (by unfold I64; omega)]; omega
  have w2 : IntKind.i64.wrap ((p : Int) + v) = ((p + v : Nat) : Int) := by rw [wr64_id (by unfold I64; omega)]; omega
  have w3 : p + v - p = v := by omega
  rw [if_neg h2] at tx
  by_cases h3 : b.length < p + v
  · rw [tx, if_pos h3]
    exact br_b (by rw [w1]; simp; omega) ⟨rfl, ⟨rfl, rfl⟩, rfl⟩
  rw [if_neg h3] at tx
  simp only [w1, w2, toNat_cast, w3]
  refine br_nb (by simp; omega) (br_dec (by omega) (br_dec (by omega) ?_))
  have ec : cellI (bCells b) i = (atB b i : Nat) := bCells_cell (by omega)
  by_cases h4 : atB b i < 128
  · rw [tx, if_pos h4, ec]
    refine br_b (by simp; omega) (br_dec (by omega) ⟨bCells_all _, rfl, ?_, rfl⟩)
    rw [bCells_bOf]; rfl
  rw [if_neg h4] at tx
  rw [ec]
  refine br_nb (by simp; omega) ⟨⟨by omega, ⟨_, rfl, by rw [List.length_take, List.length_drop]; omega⟩, by omega⟩, ?_⟩
  generalize List.take v (List.drop p b) = raw at *
  have d1 : deE (bRo raw) = decE raw := by unfold deE; rw [sealV_eq, dB_ro]
  have d2 : deT (bRo raw) = bs (decT raw) := by unfold deT; rw [sealV_eq, dB_ro]
  rw [d1, d2]
  by_cases h5 : decE raw ≠ 0
  · rw [tx, if_pos h5]
    have : decE raw = 4 := by unfold decE at h5 ⊢; split at h5 <;> simp_all
    rw [this]
    exact br_b rfl ⟨rfl, ⟨rfl, rfl⟩, rfl⟩
  rw [if_neg h5] at tx
  refine br_nb (by simp at h5; rw [h5]; rfl) ?_
  have e2 : (bs (decT raw)).data.toList.length = (decT raw).length := rfl
  rw [e2]
  by_cases h6 : 65536 < (decT raw).length
  · rw [tx, if_pos h6]
    exact br_b (by simp; omega) ⟨rfl, ⟨rfl, rfl⟩, rfl⟩
  · rw [tx, if_neg h6]
    exact br_nb (by simp; omega) ⟨rfl, rfl, rfl⟩
end Go.Proofs.Ytellbmbklfbbfaa.up
