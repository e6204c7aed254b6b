/- The document's own bits, put behind one another: a contract of what writes them. -/
import Derived.Test.YtlkinjlbaeigdaaSz9
import Derived.Test.YtlkinjlbaeigdaaRows
import Derived.Test.YtlkinjlbaeigdaaLhfE8
set_option maxRecDepth 20000
set_option linter.unusedSimpArgs false
set_option linter.unusedVariables false
namespace Go.Proofs.Ytlkinjlbaeigdaa.hf
open Go Go.Ev Go.Sy Go.RowKit Go.Proofs.Ytlkinjlbaeigdaa.gl Go.Proofs.Ytlkinjlbaeigdaa.tk
theorem bl_ex (f : Nat → Nat → List Bool) : ∃ g, g = f := ⟨f, rfl⟩
noncomputable def blZ : Nat → Nat → List Bool := Classical.choose (bl_ex bl)
def padZ (X : List Bool) : List Bool := X ++ List.replicate ((8 - X.length % 8) % 8) false
theorem bz_ex (f : List Bool → List UInt8) : ∃ g, g = f := ⟨f, rfl⟩
noncomputable def bytZ : List Bool → List UInt8 := Classical.choose (bz_ex fun X => byts (padZ X))
structure GAd where
  B : List Bool
  c : Nat
  n : Nat
noncomputable def adX (g : GAd) (j : Nat) : List Bool := g.B ++ (blZ g.n g.c).take j
noncomputable def bsC (r : Nat) (X : List Bool) : Row := ⟨[.slice (some ⟨r, 0, none⟩) (bytZ X).length 1, .int .i64 (X.length : Nat)], false, .cells false⟩
noncomputable def rlX (X : List Bool) : List (Nat × Row) := [(0, bsC 2 X), (2, bOwn (bytZ X))]
def slA (g : GAd) (j : Nat) : List (Nat × Value) := [(0, .pointer (some ⟨0, 0, none⟩)), (1, .int .i64 (g.c : Nat)), (6, .int .i64 ((g.n : Int) - 1 - (j : Nat)))]
noncomputable def wsA (g : GAd) : List (Gate Unit) := [⟨.exit 0, fun _ => True, fun _ => [], fun _ => rlX (adX g g.n), 3⟩]
noncomputable def specA : Sy.Spec := specOf 2 3 59 (fun g : GAd => g.B.length ≤ 40000000 ∧ g.n ≤ 30 ∧ g.c < 4294967296) (fun g => slA g 0) (fun g => rlX (adX g 0)) wsA
noncomputable def mA := mOf [(64, [0, 1], specA)]
noncomputable def cdZ2 (n : Int) : Int := Classical.choose (int_ex0 (cdI n))
noncomputable def eK : EntM := entC 63 fun a r => match a, r with
  | [.int .i64 n], [] => some (True, .tuple #[.int .i64 (cdZ2 n), .int .i64 (lenI n)], [])
  | _, _ => none
noncomputable def tF : List EntM := [eK]
noncomputable abbrev EtF : Env := envT Try.prog tF
theorem A_round (g : GAd) (j : Nat) (Inv : Nat → Prop) (m : Nat → Nat) : mev EtF noM 60 64 (0 :: [0, 1]) false (codeOf Try.prog 64 (0 :: [0, 1])) ⟨mkOv (slA g j), 59, []⟩ none ⟨mkR (rlX (adX g j)), 3⟩ (roundK 2 3 59 Inv m (slA g) (fun j => rlX (adX g j)) (wsA g) j) =
  let z3 := (Int.tdiv (↑(List.length (adX g j)) : Int) (8 : Int)); let z1 := (IntKind.wrap IntKind.i64 z3); let z2 := (List.take (List.length (bytZ (adX g j)) * 1)
  (List.drop 0 (bCells (bytZ (adX g j)))) ++ [Value.int IntKind.u8 (0 : Int)]); let z4 := (Value.int IntKind.i64 (↑(List.length (adX g j)) : Int) = Value.int IntKind.i64
  (↑(List.length (adX g j)) : Int)); let z5 := (cellI (bCells (bytZ (adX g j))) (0 + Int.toNat z1 * 1)); let z6 := ((↑g.3 : Int) - (1 : Int) - (↑j : Int) - (1 : Int)); let
  z7 := (decide ((0 : Int) <= IntKind.wrap IntKind.i64 z3 /\ IntKind.wrap IntKind.i64 z3 < (↑(List.length (bytZ (adX g j)) + 1) : Int))); let z8 := ((↑(List.length (adX g
  j)) : Int) + (1 : Int)); let z9 := (decide ((0 : Int) <= IntKind.wrap IntKind.i64 z3 /\ IntKind.wrap IntKind.i64 z3 < (↑(List.length (bytZ (adX g j))) : Int))); let z10 :=
  (Eq (α := Option Value) (z2[0 + Int.toNat z1 * 1]?) (some (Value.int IntKind.u8 (cellI z2 (0 + Int.toNat z1 * 1))))); let z11 := (iand IntKind.i64 (ishr IntKind.i64 (↑g.2
  : Int) ((↑g.3 : Int) - (1 : Int) - (↑j : Int))) (1 : Int) == (1 : Int)); let z12 := (Eq (α := Option Value) ((bCells (bytZ (adX g j)))[0 + Int.toNat z1 * 1]?) (some
  (Value.int IntKind.u8 z5))); let z13 := (ishr IntKind.u8 (128 : Int) (Int.tmod (↑(List.length (adX g j)) : Int) (8 : Int))); let z14 := (decide ((0 : Int) <= (↑g.3 : Int)
  - (1 : Int) - (↑j : Int))); (br (decide ((↑g.3 : Int) - (1 : Int) - (↑j : Int) ≥ (0 : Int))) (br (Int.tmod (↑(List.length (adX g j)) : Int) (8 : Int) == (0 : Int)) (br
  (decide (List.length (bytZ (adX g j)) + 1 <= 16777216)) (br (decide (0 + List.length (bytZ (adX g j)) * 1 <= List.length (bCells (bytZ (adX g j))))) (br z14 (br z11 (br z7
  (z10 /\ (br z7 (br (decide (0 + Int.toNat z1 * 1 + 1 <= List.length z2)) ((Value.slice (some (Addr.mk 4 0 none)) (List.length (bytZ (adX g j)) + 1) 1 = Value.slice (some
  (Addr.mk 4 0 none)) (List.length (bytZ (adX g j)) + 1) 1) /\ (z4 /\ (z10 /\ ((Value.int IntKind.u8 (cellI z2 (0 + Int.toNat z1 * 1)) = Value.int IntKind.u8 (cellI z2 (0 +
  Int.toNat z1 * 1))) /\ (z4 /\ (∃ j2 : Nat, ((Inv j2) /\ ((m j2 < m j) /\ ((0 = 0) /\ (((↑g.2 : Int) = (↑g.2 : Int)) /\ (((↑g.3 : Int) - (1 : Int) - (↑j2 : Int) =
  IntKind.wrap IntKind.i64 z6) /\ ((0 = 0) /\ ((List.length (bytZ (adX g j2)) = List.length (bytZ (adX g j)) + 1) /\ (((↑(List.length (adX g j2)) : Int) = IntKind.wrap
  IntKind.i64 z8) /\ ((Eq (α := List Value) (bCells (bytZ (adX g j2))) (ovr z2 (0 + Int.toNat z1 * 1) [Value.int IntKind.u8 (ior IntKind.u8 (cellI z2 (0 + Int.toNat z1 * 1))
  z13)])) /\ ((Plain (bCells (bytZ (adX g j2)))) /\ True)))))))))))))))) False) False)) False) (∃ j2 : Nat, ((Inv j2) /\ ((m j2 < m j) /\ ((0 = 0) /\ (((↑g.2 : Int) = (↑g.2
  : Int)) /\ (((↑g.3 : Int) - (1 : Int) - (↑j2 : Int) = IntKind.wrap IntKind.i64 z6) /\ ((0 = 0) /\ ((List.length (bytZ (adX g j2)) = List.length (bytZ (adX g j)) + 1) /\
  (((↑(List.length (adX g j2)) : Int) = IntKind.wrap IntKind.i64 z8) /\ ((Eq (α := List Value) (bCells (bytZ (adX g j2))) z2) /\ ((Plain (bCells (bytZ (adX g j2)))) /\
  True)))))))))))) False) False) False) (br z14 (br z11 (br z9 (z12 /\ (br z9 (br (decide (0 + Int.toNat z1 * 1 + 1 <= List.length (bCells (bytZ (adX g j))))) ((Value.slice
  (some (Addr.mk 2 0 none)) (List.length (bytZ (adX g j))) 1 = Value.slice (some (Addr.mk 2 0 none)) (List.length (bytZ (adX g j))) 1) /\ (z4 /\ (z12 /\ ((Value.int
  IntKind.u8 z5 = Value.int IntKind.u8 z5) /\ (z4 /\ (∃ j2 : Nat, ((Inv j2) /\ ((m j2 < m j) /\ ((0 = 0) /\ (((↑g.2 : Int) = (↑g.2 : Int)) /\ (((↑g.3 : Int) - (1 : Int) -
  (↑j2 : Int) = IntKind.wrap IntKind.i64 z6) /\ ((0 = 0) /\ ((List.length (bytZ (adX g j2)) = List.length (bytZ (adX g j))) /\ (((↑(List.length (adX g j2)) : Int) =
  IntKind.wrap IntKind.i64 z8) /\ ((Eq (α := List Value) (bCells (bytZ (adX g j2))) (ovr (bCells (bytZ (adX g j))) (0 + Int.toNat z1 * 1) [Value.int IntKind.u8 (ior
  IntKind.u8 z5 z13)])) /\ ((Plain (bCells (bytZ (adX g j2)))) /\ True)))))))))))))))) False) False)) False) (∃ j2 : Nat, ((Inv j2) /\ ((m j2 < m j) /\ ((0 = 0) /\ (((↑g.2 :
  Int) = (↑g.2 : Int)) /\ (((↑g.3 : Int) - (1 : Int) - (↑j2 : Int) = IntKind.wrap IntKind.i64 z6) /\ ((0 = 0) /\ ((List.length (bytZ (adX g j2)) = List.length (bytZ (adX g
  j))) /\ (((↑(List.length (adX g j2)) : Int) = IntKind.wrap IntKind.i64 z8) /\ ((Eq (α := List Value) (bCells (bytZ (adX g j2))) (bCells (bytZ (adX g j)))) /\ ((Plain
  (bCells (bytZ (adX g j2)))) /\ True)))))))))))) False)) (∃ y : Unit, ((True) /\ ((0 = 0) /\ ((List.length (bytZ (adX g g.3)) = List.length (bytZ (adX g j))) /\
  (((↑(List.length (adX g g.3)) : Int) = (↑(List.length (adX g j)) : Int)) /\ ((Eq (α := List Value) (bCells (bytZ (adX g g.3))) (bCells (bytZ (adX g j)))) /\ ((Plain
  (bCells (bytZ (adX g g.3)))) /\ True)))))))) := by kernel_rfl
theorem A_vc (B X : List Bool) (c n : Nat) : mcall EtF mA 60 64 [.pointer (some ⟨0, 0, none⟩), .int .i64 (c : Nat), .int .i64 (n : Nat)] ⟨mkR (nums 0 [bsC 1 B, bOwn (bytZ B)]), 2⟩ (retIsM 2 (.tuple #[]) 3 (rlX X)) =
  (∃ g : GAd, ((List.length g.1 <= 40000000 /\ g.3 <= 30 /\ g.2 < 4294967296) /\ ((0 = 0) /\ (((↑g.2 : Int) = (↑c : Int)) /\ (((↑g.3 : Int) - (1 : Int) - (0 : Int) =
  IntKind.wrap IntKind.i64 ((↑n : Int) - (1 : Int))) /\ ((0 = 0) /\ ((List.length (bytZ (adX g 0)) = List.length (bytZ B)) /\ (((↑(List.length (adX g 0)) : Int) =
  (↑(List.length B) : Int)) /\ ((Eq (α := List Value) (bCells (bytZ (adX g 0))) (bCells (bytZ B))) /\ ((Plain (bCells (bytZ (adX g 0)))) /\ (∀ (y : Unit), ((True) → ((0 = 0)
  /\ ((List.length (bytZ X) = List.length (bytZ (adX g g.3))) /\ (((↑(List.length X) : Int) = (↑(List.length (adX g g.3)) : Int)) /\ ((Eq (α := List Value) (bCells (bytZ X))
  (bCells (bytZ (adX g g.3)))) /\ ((Plain (bCells (bytZ X))) /\ True))))))))))))))))) := by kernel_rfl
theorem z_cdZ2 (n : Int) : cdZ2 n = cdI n := Classical.choose_spec (int_ex0 _)
theorem z_bytZ : bytZ = fun X => byts (padZ X) := Classical.choose_spec (bz_ex _)
theorem z_blZ : blZ = bl := Classical.choose_spec (bl_ex bl)
theorem eK_ok : EntOk Try.prog eK := entC_ok (by
  intro a rows p v news h hp
  split at h <;> simp only [Option.some.injEq, Prod.mk.injEq, reduceCtorEq] at h
  obtain ⟨rfl, rfl, rfl⟩ := h
  rw [z_cdZ2, z_lenI]
  exact K_con _)
theorem tF_ok : ∀ x ∈ tF, EntOk Try.prog x := all_cons eK_ok (all_nil)
theorem bl_getZ : ∀ (n v j : Nat), j < n → (bl n v)[j]? = some (decide (v / 2 ^ (n - 1 - j) % 2 = 1))
  | n + 1, v, 0, _ => by simp [bl]
  | n + 1, v, j + 1, h => by
    rw [bl, List.getElem?_cons_succ, bl_getZ n v j (by omega), show n - 1 - j = n + 1 - 1 - (j + 1) by omega]
  | 0, _, _, h => by omega
noncomputable def bitX (g : GAd) (j : Nat) : Bool := decide (g.c / 2 ^ (g.n - 1 - j) % 2 = 1)
theorem adX_next (g : GAd) (j : Nat) (h : j < g.n) : adX g (j + 1) = adX g j ++ [bitX g j] := by
  unfold adX bitX
  rw [z_blZ, List.take_add_one, bl_getZ _ _ _ h, List.append_assoc]; rfl
theorem adX_len (g : GAd) (j : Nat) (h : j ≤ g.n) : (adX g j).length = g.B.length + j := by
  unfold adX
  rw [z_blZ, List.length_append, List.length_take, bl_len]; omega
theorem bz_len (X : List Bool) : (bytZ X).length = (X.length + 7) / 8 := by
  rw [z_bytZ]; simp only; rw [byts_l]; unfold padZ; rw [List.length_append, List.length_replicate]; omega
theorem byts8Z (l : List Bool) (h : l.length = 8) : byts l = [byN l] := by
  rw [byts_ge l (by omega), List.take_of_length_le (by omega), List.drop_eq_nil_of_le (by omega), byts_lt [] (by decide)]
theorem bz_new (X : List Bool) (b : Bool) (h : X.length % 8 = 0) : bytZ (X ++ [b]) = bytZ X ++ [byN (b :: List.replicate 7 false)] := by
  rw [z_bytZ]; simp only; unfold padZ
  rw [show (8 - X.length % 8) % 8 = 0 by omega, List.replicate_zero, List.append_nil, List.length_append, List.length_singleton, show (8 - (X.length + 1) % 8) % 8 = 7 by omega, List.append_assoc, byts_app, rest_byts _ h, List.nil_append, byts8Z ([b] ++ List.replicate 7 false) (by simp)]; rfl
theorem bz_in (X : List Bool) (b : Bool) (h : X.length % 8 ≠ 0) : bytZ X = byts X ++ [byN (rest X ++ List.replicate (8 - X.length % 8) false)] ∧ bytZ (X ++ [b]) = byts X ++ [byN (rest X ++ b :: List.replicate (7 - X.length % 8) false)] := by
  have hr := rest_l X
  rw [z_bytZ]; simp only; unfold padZ
  constructor
  · rw [show (8 - X.length % 8) % 8 = 8 - X.length % 8 by omega, byts_app, byts8Z (rest X ++ List.replicate (8 - X.length % 8) false) (by simp; omega)]
  · rw [List.length_append, List.length_singleton, show (8 - (X.length + 1) % 8) % 8 = 7 - X.length % 8 by omega, List.append_assoc, byts_app, List.singleton_append, byts8Z (rest X ++ b :: List.replicate (7 - X.length % 8) false) (by simp; omega)]
theorem val_zerosZ (n : Nat) : val (List.replicate n false) = 0 := by
  induction n with
  | zero => rfl
  | succ n ih => rw [List.replicate_succ, val_cons, ih]; simp
theorem byN_natZ (l : List Bool) (h : l.length = 8) : (byN l).toNat = val l := by
  have := val_lt l
  rw [h] at this
  unfold byN
  rw [UInt8.toNat_ofNat']; exact Nat.mod_eq_of_lt this
theorem sh128 : ∀ r : Fin 8, 128 / 2 ^ r.1 = 2 ^ (7 - r.1) := by decide
theorem by_or (X : List Bool) (h : X.length % 8 ≠ 0) : (byN (rest X ++ true :: List.replicate (7 - X.length % 8) false)).toNat = (byN (rest X ++ List.replicate (8 - X.length % 8) false)).toNat ||| 128 / 2 ^ (X.length % 8) := by
  have hr := rest_l X
  rw [byN_natZ _ (by simp; omega), byN_natZ _ (by simp; omega), val_app, val_app, val_cons, val_zerosZ, val_zerosZ, List.length_cons, List.length_replicate, List.length_replicate, sh128 ⟨X.length % 8, by omega⟩]
  simp only
  rw [show 7 - X.length % 8 + 1 = 8 - X.length % 8 by omega, Nat.mul_comm (val (rest X)), Nat.add_zero, Nat.add_zero, or_add (Nat.pow_lt_pow_right (by omega) (by omega)), show Bool.toNat true = 1 from rfl, Nat.one_mul]
theorem by_same (X : List Bool) (h : X.length % 8 ≠ 0) : byN (rest X ++ false :: List.replicate (7 - X.length % 8) false) = byN (rest X ++ List.replicate (8 - X.length % 8) false) := by
  rw [← List.replicate_succ, show 7 - X.length % 8 + 1 = 8 - X.length % 8 by omega]
theorem ovr_lastZ (A : List Value) (x y : Value) (n : Nat) (h : n = A.length) : ovr (A ++ [x]) n [y] = A ++ [y] := by subst h; simp [ovr]
theorem bC_oneZ (A : List UInt8) (w : UInt8) : bCells (A ++ [w]) = bCells A ++ [.int .u8 (w.toNat : Nat)] := by rw [← bCells_app]; rfl
theorem cell_lastZ (A : List Value) (v : Int) (n : Nat) (h : n = A.length) : (A ++ [Value.int .u8 v])[n]? = some (.int .u8 v) ∧ cellI (A ++ [Value.int .u8 v]) n = v := by
  have : (A ++ [Value.int .u8 v])[n]? = some (.int .u8 v) := by subst h; simp
  exact ⟨this, by unfold cellI; rw [this]⟩
theorem A_piece : PieceOk EtF 2 (64, [0, 1], specA) := by
  refine piece_loop mixed (calls_envT tF_ok) (lok_envT _ _) lm_none (n := 60) (by kernel_rfl) (fun _ : GAd => (0 : Nat)) (fun g j => j ≤ g.n) (fun g j => g.n - j) (sl := slA) (rl := fun g j => rlX (adX g j)) (fun g hg => Nat.zero_le _) (fun g j hg hi => ?_)
  refine (A_round g j _ _).mpr ?_
  obtain ⟨g1, g2, g3⟩ := hg
  have hl := adX_len g j hi
  generalize hY : adX g j = Y at hl
  have hz := bz_len Y
  have td : ((Y.length : Int)).tdiv 8 = ((Y.length / 8 : Nat) : Int) := rfl
  have tm : ((Y.length : Int)).tmod 8 = ((Y.length % 8 : Nat) : Int) := rfl
  have w8 : IntKind.i64.wrap ((Y.length / 8 : Nat) : Int) = ((Y.length / 8 : Nat) : Int) := wr64_id (by unfold I64; omega)
  have w1 : IntKind.i64.wrap ((Y.length : Int) + 1) = ((Y.length + 1 : Nat) : Int) := by rw [wr64_id (by unfold I64; omega)]; omega
  simp only [ofNat_eq, toNat_cast, Nat.zero_add, Nat.add_zero, Nat.mul_one, List.drop_zero, bCells_len, bCells_drop, bCells_take, bCells_app, bCells_one, bCells_plain, List.length_replicate, List.length_append, List.length_take, List.length_drop, List.take_length, and_true, true_and, and_self, decide_true, List.length_nil, List.length_cons, Nat.sub_zero, dB_mk, dB_ro, List.take_zero, hY, td, tm, w8, w1, Int.toNat_natCast]
  refine br_if (fun h => ?_) (fun h => ?_)
  rotate_left
  · have : j = g.n := by omega
    subst this
    rw [hY]; exact ⟨(), rfl, rfl, rfl⟩
  have hj : j < g.n := by omega
  have hn := adX_next g j hj
  rw [hY] at hn
  have wj : IntKind.i64.wrap ((g.n : Int) - 1 - (j : Int) - 1) = (g.n : Int) - 1 - ((j + 1 : Nat) : Int) := by rw [wr64_id (by unfold I64; omega)]; omega
  have ej : (g.n : Int) - 1 - (j : Int) = ((g.n - 1 - j : Nat) : Int) := by omega
  have hb : (iand .i64 (ishr .i64 (g.c : Int) ((g.n : Int) - 1 - (j : Int))) 1 == 1) = bitX g j := by
    rw [ej, ishr_nat (by omega)]
    have hd : g.c / 2 ^ (g.n - 1 - j) ≤ g.c := Nat.div_le_self _ _
    rw [show (1 : Int) = ((1 : Nat) : Int) from rfl, iand_nat (by omega) (by omega), Nat.and_one_is_mod]
    unfold bitX
    generalize g.c / 2 ^ (g.n - 1 - j) % 2 = x
    rw [Bool.eq_iff_iff, beq_iff_eq, decide_eq_true_iff]; omega
  have key : ∀ x : Bool, bitX g j = x → adX g (j + 1) = Y ++ [x] := fun x hx => by rw [hn, hx]
  rw [hb]
  refine br_intro (fun h8 => ?_) (fun h8 => ?_)
  · have h8 : Y.length % 8 = 0 := by have := eq_of_beq h8; omega
    have hl8 : Y.length / 8 = (bCells (bytZ Y)).length := by rw [bCells_len, hz]; omega
    obtain ⟨c1, c2⟩ := cell_lastZ (bCells (bytZ Y)) 0 _ hl8
    refine br_dec (by omega) (br_dec (by omega) (br_dec (by omega) (br_intro (fun hx => ?_) (fun hx => ?_))))
    · have e : byN (true :: List.replicate 7 false) = 128 := by decide
      refine br_dec (by omega) ⟨by rw [c2]; exact c1, br_dec (by omega) (br_dec (by omega) ⟨by rw [c2]; exact c1, j + 1, by omega, by omega, wj.symm, ?_, ?_, ?_⟩)⟩
      · rw [key _ hx, bz_new _ _ h8]; simp
      · rw [key _ hx]; simp
      · rw [key _ hx, bz_new _ _ h8, e, bC_oneZ, ovr_lastZ _ _ _ _ hl8, c2, h8]; rfl
    · have e : byN (false :: List.replicate 7 false) = 0 := by decide
      refine ⟨j + 1, by omega, by omega, wj.symm, ?_, ?_, ?_⟩
      · rw [key _ hx, bz_new _ _ h8]; simp
      · rw [key _ hx]; simp
      · rw [key _ hx, bz_new _ _ h8, e, bC_oneZ]; rfl
  · have h8 : Y.length % 8 ≠ 0 := by intro e; rw [e] at h8; simp at h8
    obtain ⟨i1, _⟩ := bz_in Y true h8
    have hl8 : Y.length / 8 = (bCells (byts Y)).length := by rw [bCells_len, byts_l]
    have hbc : bCells (bytZ Y) = bCells (byts Y) ++ [.int .u8 ((byN (rest Y ++ List.replicate (8 - Y.length % 8) false)).toNat : Nat)] := by rw [i1, bC_oneZ]
    obtain ⟨c1, c2⟩ := cell_lastZ (bCells (byts Y)) (((byN (rest Y ++ List.replicate (8 - Y.length % 8) false)).toNat : Nat) : Int) _ hl8
    rw [hbc]
    refine br_dec (by omega) (br_intro (fun hx => ?_) (fun hx => ?_))
    · refine br_dec (by omega) ⟨by rw [c2]; exact c1, br_dec (by omega) (br_dec (by omega) ⟨by rw [c2]; exact c1, j + 1, by omega, by omega, wj.symm, ?_, ?_, ?_⟩)⟩
      · rw [key _ hx, bz_len, hz]; simp; omega
      · rw [key _ hx]; simp
      · rw [key _ hx, (bz_in Y true h8).2, bC_oneZ, by_or Y h8, ovr_lastZ _ _ _ _ hl8, c2, show (128 : Int) = ((128 : Nat) : Int) from rfl, ishr8_nat (by omega), ior8_nat (u8_lt _) (Nat.lt_of_le_of_lt (Nat.div_le_self _ _) (by omega))]
    · refine ⟨j + 1, by omega, by omega, wj.symm, ?_, ?_, ?_⟩
      · rw [key _ hx, bz_len, hz]; simp; omega
      · rw [key _ hx]; simp
      · rw [key _ hx, (bz_in Y false h8).2, bC_oneZ, by_same Y h8]
theorem A_con (B : List Bool) (c n : Nat) (hB : B.length ≤ 40000000) (hn : n ≤ 30) (hc : c < 4294967296) : ConM Try.prog 64 [.pointer (some ⟨0, 0, none⟩), .int .i64 (c : Nat), .int .i64 (n : Nat)] [bsC 1 B, bOwn (bytZ B)] (.tuple #[]) 3 (rlX (B ++ bl n c)) := by
  refine conM_vc (E := EtF) mixed (calls_envT tF_ok) (lok_envT _ _) (M := mA) (lm_one A_piece) (A_vc B _ c n) ?_
  have e : adX ⟨B, c, n⟩ n = B ++ bl n c := by unfold adX; rw [z_blZ]; simp only; rw [List.take_of_length_le (by rw [bl_len]; omega)]
  have e0 : adX ⟨B, c, n⟩ 0 = B := by unfold adX; rw [List.take_zero, List.append_nil]
  simp only [ofNat_eq, toNat_cast, Nat.zero_add, Nat.add_zero, Nat.mul_one, List.drop_zero, bCells_len, bCells_drop, bCells_take, bCells_app, bCells_one, bCells_plain, List.length_replicate, List.length_append, List.length_take, List.length_drop, List.take_length, and_true, true_and, and_self, decide_true, List.length_nil, List.length_cons, Nat.sub_zero, dB_mk, dB_ro, List.take_zero]
  refine ⟨⟨B, c, n⟩, ⟨hB, hn, hc⟩, rfl, by rw [wr64_id (by unfold I64; omega)]; simp only; omega, by rw [e0], by rw [e0], by rw [e0], fun _ _ => ?_⟩
  simp [e]
end Go.Proofs.Ytlkinjlbaeigdaa.hf
