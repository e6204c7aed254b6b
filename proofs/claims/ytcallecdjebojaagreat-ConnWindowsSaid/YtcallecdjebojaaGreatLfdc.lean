/- The bytes of a frame, read. -/
import Derived.Test.YtcallecdjebojaaGreatSz9
import Derived.Test.YtcallecdjebojaaGreatRows
import Derived.Test.YtcallecdjebojaaGreatLs9ptc
set_option maxRecDepth 20000
set_option linter.unusedSimpArgs false
set_option linter.unusedVariables false
namespace Go.Proofs.YtcallecdjebojaaGreat.fd
open Go Go.Ev Go.Sy Go.RowKit Go.Proofs.YtcallecdjebojaaGreat.s9
def bt (l : List UInt8) (i : Nat) : Nat := (l.getD i 0).toNat
def lenF (l : List UInt8) : Nat := bt l 0 * 65536 + bt l 1 * 256 + bt l 2
def strF (l : List UInt8) : Nat := (bt l 5 % 128) * 16777216 + bt l 6 * 65536 + bt l 7 * 256 + bt l 8
theorem rn_ex (f : Row → Nat) : ∃ g, g = f := ⟨f, rfl⟩
noncomputable def zT : Row → Nat := Classical.choose (rn_ex fun r => bt (dB r) 3)
noncomputable def zG : Row → Nat := Classical.choose (rn_ex fun r => bt (dB r) 4)
noncomputable def zS : Row → Nat := Classical.choose (rn_ex fun r => strF (dB r))
noncomputable def cD : FuncId → List Value → List Row → Option (Prop × Value × List Row)
  | 68, [.slice (some ⟨0, 0, none⟩) n 1], [r0] => some (IsB r0 n ∧ 9 ≤ n ∧ n ≤ 16777216, frV (zT r0 : Nat) (zG r0 : Nat) (zS r0 : Nat) 1 (n - 9), [bOwn ((dB r0).drop 9)])
  | _, _, _ => none
noncomputable def eDec : EntM := entC 68 fun a r => cD 68 a r
theorem dec_vc (l p : List UInt8) (t f s : Int) : mcall E0 noM 60 68 [slc 0 l.length] ⟨mkR (nums 0 [bRo l]), 1⟩ (retIs 1 (frV t f s 1 p.length) [bRo l, bOwn p]) =
  (br (decide ((0 : Int) <= (5 : Int) /\ (5 : Int) < (↑(List.length l) : Int))) ((Eq (α := Option Value) ((bCells l)[5]?) (some (Value.int IntKind.u8 (cellI (bCells l) 5))))
  /\ (br (decide ((0 : Int) <= (6 : Int) /\ (6 : Int) < (↑(List.length l) : Int))) ((Eq (α := Option Value) ((bCells l)[6]?) (some (Value.int IntKind.u8 (cellI (bCells l)
  6)))) /\ (br (decide ((0 : Int) <= (7 : Int) /\ (7 : Int) < (↑(List.length l) : Int))) ((Eq (α := Option Value) ((bCells l)[7]?) (some (Value.int IntKind.u8 (cellI (bCells
  l) 7)))) /\ (br (decide ((0 : Int) <= (8 : Int) /\ (8 : Int) < (↑(List.length l) : Int))) ((Eq (α := Option Value) ((bCells l)[8]?) (some (Value.int IntKind.u8 (cellI
  (bCells l) 8)))) /\ ((Eq (α := Option Value) ((bCells l)[5]?) (some (Value.int IntKind.u8 (cellI (bCells l) 5)))) /\ ((Value.int IntKind.u8 (cellI (bCells l) 5) =
  Value.int IntKind.u8 (cellI (bCells l) 5)) /\ ((Value.int IntKind.i64 (IntKind.wrap IntKind.i64 (cellI (bCells l) 5)) = Value.int IntKind.i64 (IntKind.wrap IntKind.i64
  (cellI (bCells l) 5))) /\ ((Eq (α := Option Value) ((bCells l)[6]?) (some (Value.int IntKind.u8 (cellI (bCells l) 6)))) /\ ((Value.int IntKind.u8 (cellI (bCells l) 6) =
  Value.int IntKind.u8 (cellI (bCells l) 6)) /\ ((Value.int IntKind.i64 (IntKind.wrap IntKind.i64 (cellI (bCells l) 6)) = Value.int IntKind.i64 (IntKind.wrap IntKind.i64
  (cellI (bCells l) 6))) /\ ((Eq (α := Option Value) ((bCells l)[7]?) (some (Value.int IntKind.u8 (cellI (bCells l) 7)))) /\ ((Value.int IntKind.u8 (cellI (bCells l) 7) =
  Value.int IntKind.u8 (cellI (bCells l) 7)) /\ ((Value.int IntKind.i64 (IntKind.wrap IntKind.i64 (cellI (bCells l) 7)) = Value.int IntKind.i64 (IntKind.wrap IntKind.i64
  (cellI (bCells l) 7))) /\ ((Eq (α := Option Value) ((bCells l)[8]?) (some (Value.int IntKind.u8 (cellI (bCells l) 8)))) /\ ((Value.int IntKind.u8 (cellI (bCells l) 8) =
  Value.int IntKind.u8 (cellI (bCells l) 8)) /\ ((Value.int IntKind.i64 (IntKind.wrap IntKind.i64 (cellI (bCells l) 8)) = Value.int IntKind.i64 (IntKind.wrap IntKind.i64
  (cellI (bCells l) 8))) /\ (br (decide ((0 : Int) <= (3 : Int) /\ (3 : Int) < (↑(List.length l) : Int))) ((Eq (α := Option Value) ((bCells l)[3]?) (some (Value.int
  IntKind.u8 (cellI (bCells l) 3)))) /\ (br (decide ((0 : Int) <= (4 : Int) /\ (4 : Int) < (↑(List.length l) : Int))) ((Eq (α := Option Value) ((bCells l)[4]?) (some
  (Value.int IntKind.u8 (cellI (bCells l) 4)))) /\ (br (decide ((0 : Int) <= (9 : Int) /\ (9 : Int) <= (↑(List.length l) : Int) /\ (↑(List.length l) : Int) <= (↑(List.length
  l) : Int))) (br (decide (9 + (Int.toNat (↑(List.length l) : Int) - 9) * 1 <= List.length (bCells l))) (br (allOne (List.take ((Int.toNat (↑(List.length l) : Int) - 9) * 1)
  (List.drop 9 (bCells l)))) (br (decide (Int.toNat (↑(List.length l) : Int) - 9 <= 16777216)) ((Eq (α := Option Value) ((bCells l)[3]?) (some (Value.int IntKind.u8 (cellI
  (bCells l) 3)))) /\ ((Value.int IntKind.u8 (cellI (bCells l) 3) = Value.int IntKind.u8 (cellI (bCells l) 3)) /\ ((Eq (α := Option Value) ((bCells l)[3]?) (some (Value.int
  IntKind.u8 (cellI (bCells l) 3)))) /\ ((Value.int IntKind.u8 (cellI (bCells l) 3) = Value.int IntKind.u8 (cellI (bCells l) 3)) /\ ((Value.int IntKind.i64 (IntKind.wrap
  IntKind.i64 (cellI (bCells l) 3)) = Value.int IntKind.i64 (IntKind.wrap IntKind.i64 (cellI (bCells l) 3))) /\ ((Value.int IntKind.i64 (IntKind.wrap IntKind.i64 (cellI
  (bCells l) 3)) = Value.int IntKind.i64 (IntKind.wrap IntKind.i64 (cellI (bCells l) 3))) /\ ((Eq (α := Option Value) ((bCells l)[4]?) (some (Value.int IntKind.u8 (cellI
  (bCells l) 4)))) /\ ((Value.int IntKind.u8 (cellI (bCells l) 4) = Value.int IntKind.u8 (cellI (bCells l) 4)) /\ ((Eq (α := Option Value) ((bCells l)[4]?) (some (Value.int
  IntKind.u8 (cellI (bCells l) 4)))) /\ ((Value.int IntKind.u8 (cellI (bCells l) 4) = Value.int IntKind.u8 (cellI (bCells l) 4)) /\ ((Value.int IntKind.i64 (IntKind.wrap
  IntKind.i64 (cellI (bCells l) 4)) = Value.int IntKind.i64 (IntKind.wrap IntKind.i64 (cellI (bCells l) 4))) /\ ((Value.int IntKind.i64 (IntKind.wrap IntKind.i64 (cellI
  (bCells l) 4)) = Value.int IntKind.i64 (IntKind.wrap IntKind.i64 (cellI (bCells l) 4))) /\ (br (decide ((0 : Int) <= (9 : Int) /\ (9 : Int) <= (↑(List.length l) : Int) /\
  (↑(List.length l) : Int) <= (↑(List.length l) : Int))) ((Value.slice (some (Addr.mk 0 9 none)) (Int.toNat (↑(List.length l) : Int) - 9) 1 = Value.slice (some (Addr.mk 0 9
  none)) (Int.toNat (↑(List.length l) : Int) - 9) 1) /\ ((t = IntKind.wrap IntKind.i64 (cellI (bCells l) 3)) /\ ((f = IntKind.wrap IntKind.i64 (cellI (bCells l) 4)) /\ ((s =
  iand IntKind.i64 (ior IntKind.i64 (ior IntKind.i64 (ior IntKind.i64 (ishl IntKind.i64 (IntKind.wrap IntKind.i64 (cellI (bCells l) 5)) (24 : Int)) (ishl IntKind.i64
  (IntKind.wrap IntKind.i64 (cellI (bCells l) 6)) (16 : Int))) (ishl IntKind.i64 (IntKind.wrap IntKind.i64 (cellI (bCells l) 7)) (8 : Int))) (IntKind.wrap IntKind.i64 (cellI
  (bCells l) 8))) (2147483647 : Int)) /\ ((0 = 0) /\ ((List.length p = Int.toNat (↑(List.length l) : Int) - 9) /\ ((Eq (α := List Value) (bCells l) (bCells l)) /\ ((Plain
  (bCells l)) /\ ((Eq (α := List Value) (bCells p) (List.take ((Int.toNat (↑(List.length l) : Int) - 9) * 1) (List.drop 9 (bCells l)))) /\ ((Plain (bCells p)) /\
  True)))))))))) False))))))))))))) False) False) False) False)) False)) False)))))))))))))) False)) False)) False)) False) := by kernel_rfl
theorem or3 {a b c : Nat} (hb : b < 256) (hc : c < 256) : a * 2 ^ 16 ||| b * 2 ^ 8 ||| c = a * 65536 + b * 256 + c := by
  have h1 := or_add (k := 16) (a := a) (b := b * 2 ^ 8) (by omega)
  have h2 := or_add (k := 8) (a := a * 256 + b) (b := c) (by omega)
  rw [show a * 2 ^ 16 = 2 ^ 16 * a by omega, h1, show 2 ^ 16 * a + b * 2 ^ 8 = 2 ^ 8 * (a * 256 + b) by omega, h2]
  try omega
theorem or4 {d a b c : Nat} (ha : a < 256) (hb : b < 256) (hc : c < 256) : d * 2 ^ 24 ||| a * 2 ^ 16 ||| b * 2 ^ 8 ||| c = d * 16777216 + a * 65536 + b * 256 + c := by
  have h1 := or_add (k := 24) (a := d) (b := a * 2 ^ 16) (by omega)
  have h2 := or_add (k := 16) (a := d * 256 + a) (b := b * 2 ^ 8) (by omega)
  have h3 := or_add (k := 8) (a := (d * 256 + a) * 256 + b) (b := c) (by omega)
  rw [show d * 2 ^ 24 = 2 ^ 24 * d by omega, h1, show 2 ^ 24 * d + a * 2 ^ 16 = 2 ^ 16 * (d * 256 + a) by omega, h2, show 2 ^ 16 * (d * 256 + a) + b * 2 ^ 8 = 2 ^ 8 * ((d * 256 + a) * 256 + b) by omega, h3]
  try omega
theorem bt_lt (l : List UInt8) (i : Nat) : bt l i < 256 := u8_lt _
theorem bt_c {l : List UInt8} {i : Nat} (h : i < l.length) : cellI (bCells l) i = (bt l i : Nat) := bCells_cell h
theorem w64 {n : Nat} (h : n < 4294967296) : IntKind.i64.wrap (n : Int) = (n : Int) := wr64_id (by unfold I64; omega)
theorem num3 (a b c : Nat) (ha : a < 256) (hb : b < 256) (hc : c < 256) : ior .i64 (ior .i64 (ishl .i64 (IntKind.i64.wrap (a : Int)) 16) (ishl .i64 (IntKind.i64.wrap (b : Int)) 8)) (IntKind.i64.wrap (c : Int)) = ((a * 65536 + b * 256 + c : Nat) : Int) := by
  have s1 := ishl_nat (a := a) (k := 16) (by omega) (by omega)
  have s2 := ishl_nat (a := b) (k := 8) (by omega) (by omega)
  simp only [Int.cast_ofNat_Int] at s1 s2
  rw [w64 (by omega), w64 (by omega), w64 (by omega), s1, s2, ior_nat (by omega) (by omega), ior_nat ?_ (by omega), or3 hb hc]
  have := or3 (a := a) (b := b) (c := 0) hb (by omega)
  rw [Nat.or_zero] at this; omega
theorem num4 (d a b c : Nat) (hd : d < 256) (ha : a < 256) (hb : b < 256) (hc : c < 256) : ior .i64 (ior .i64 (ior .i64 (ishl .i64 (IntKind.i64.wrap (d : Int)) 24) (ishl .i64 (IntKind.i64.wrap (a : Int)) 16)) (ishl .i64 (IntKind.i64.wrap (b : Int)) 8)) (IntKind.i64.wrap (c : Int)) = ((d * 16777216 + a * 65536 + b * 256 + c : Nat) : Int) := by
  have s0 := ishl_nat (a := d) (k := 24) (by omega) (by omega)
  have s1 := ishl_nat (a := a) (k := 16) (by omega) (by omega)
  have s2 := ishl_nat (a := b) (k := 8) (by omega) (by omega)
  simp only [Int.cast_ofNat_Int] at s0 s1 s2
  have k1 := or4 (d := d) (a := a) (b := 0) (c := 0) ha (by omega) (by omega)
  have k2 := or4 (d := d) (a := a) (b := b) (c := 0) ha hb (by omega)
  simp only [Nat.zero_mul, Nat.or_zero, Nat.add_zero] at k1 k2
  rw [w64 (by omega), w64 (by omega), w64 (by omega), w64 (by omega), s0, s1, s2, ior_nat (by omega) (by omega), ior_nat (by omega) (by omega), ior_nat (by omega) (by omega), or4 ha hb hc]
theorem str_m (l : List UInt8) : iand .i64 ((bt l 5 * 16777216 + bt l 6 * 65536 + bt l 7 * 256 + bt l 8 : Nat) : Int) 2147483647 = (strF l : Nat) := by
  have h5 := bt_lt l 5; have h6 := bt_lt l 6; have h7 := bt_lt l 7; have h8 := bt_lt l 8
  have := iand_nat (a := bt l 5 * 16777216 + bt l 6 * 65536 + bt l 7 * 256 + bt l 8) (b := 2147483647) (by omega) (by omega)
  rw [show ((2147483647 : Nat) : Int) = 2147483647 from rfl] at this
  rw [this, show (2147483647 : Nat) = 2 ^ 31 - 1 from rfl, and_low]
  unfold strF
  congr 1; omega
theorem brD {P : Prop} {d : Decidable P} (h : P) (X : Prop) : br (@decide P d) X False = X := by rw [decide_eq_true h]; rfl
theorem dec_con (l : List UInt8) (h : 9 ≤ l.length) (h2 : l.length ≤ 16777216) : Con Tryz.prog 68 [slc 0 l.length] [bRo l] (frV (bt l 3) (bt l 4) (strF l) 1 (l.length - 9)) [bRo l, bOwn (l.drop 9)] := by
  have hp : (l.drop 9).length = l.length - 9 := List.length_drop
  rw [← hp]
  refine con_vc (E := E0) mixed (calls_envN _) (lok_envN _) (M := noM) lm_none (dec_vc l (l.drop 9) _ _ _) ?_
  have at' : ∀ i, i < 9 → ((bCells l)[i]? = some (Value.int IntKind.u8 (cellI (bCells l) i))) := fun i hi => bCells_at (by omega)
  simp (disch := omega) only [ofNat_eq, toNat_cast, Nat.zero_add, Nat.add_zero, Nat.mul_one, List.drop_zero, bCells_len, bCells_drop, bCells_take, bCells_app, bCells_one, bCells_plain, List.length_replicate, List.length_append, List.length_take, List.length_drop, List.take_length, and_true, true_and, and_self, decide_true, List.length_nil, List.length_cons, Nat.sub_zero, dB_mk, dB_ro, List.take_zero, at' 3, at' 4, at' 5, at' 6, at' 7, at' 8, bt_c, brD, brTt, num4 _ _ _ _ (bt_lt l 5) (bt_lt l 6) (bt_lt l 7) (bt_lt l 8), str_m]
  rw [w64 (by have := bt_lt l 3; omega), w64 (by have := bt_lt l 4; omega), List.take_of_length_le (by rw [hp]; exact Nat.le_refl _)]
  exact ⟨rfl, rfl, rfl⟩
theorem z_T (l : List UInt8) (ro : Bool) (o : Ob) : zT ⟨bCells l, ro, o⟩ = bt l 3 := by unfold zT; rw [Classical.choose_spec (rn_ex _), dB_mk]
theorem z_G (l : List UInt8) (ro : Bool) (o : Ob) : zG ⟨bCells l, ro, o⟩ = bt l 4 := by unfold zG; rw [Classical.choose_spec (rn_ex _), dB_mk]
theorem z_S (l : List UInt8) (ro : Bool) (o : Ob) : zS ⟨bCells l, ro, o⟩ = strF l := by unfold zS; rw [Classical.choose_spec (rn_ex _), dB_mk]
theorem eDec_ok : EntOk Tryz.prog eDec := entC_ok (by
  intro a rows p v news h hp
  unfold cD at h
  split at h <;> simp only [Option.some.injEq, Prod.mk.injEq, reduceCtorEq] at h
  obtain ⟨rfl, rfl, rfl⟩ := h
  rename_i n r0
  obtain ⟨⟨l, rfl, rfl⟩, h9, h10⟩ := hp
  have := dec_con l h9 h10
  unfold bRo
  rw [z_T, z_G, z_S, dB_mk]
  exact this)
end Go.Proofs.YtcallecdjebojaaGreat.fd
