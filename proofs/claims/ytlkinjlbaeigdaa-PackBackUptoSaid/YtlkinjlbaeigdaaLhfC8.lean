/- Codes, sizes, texts encoded. -/
import Derived.Test.YtlkinjlbaeigdaaSz9
import Derived.Test.YtlkinjlbaeigdaaRows
import Derived.Test.YtlkinjlbaeigdaaLhfM
set_option maxRecDepth 20000
set_option linter.unusedSimpArgs false
set_option linter.unusedVariables false
namespace Go.Proofs.Ytlkinjlbaeigdaa.hf
open Go Go.Ev Go.Sy Go.RowKit Go.Proofs.Ytlkinjlbaeigdaa.gl Go.Proofs.Ytlkinjlbaeigdaa.tk
theorem v_ex (l : List Value) : ∃ g, g = l := ⟨l, rfl⟩
noncomputable def bkC : List Value := Classical.choose (v_ex (nC (tbl 864 (f3 257))))
theorem int_ex0 (n : Int) : ∃ v : Int, v = n := ⟨n, rfl⟩
noncomputable def lenI (n : Int) : Int := Classical.choose (int_ex0 (hLenI n))
noncomputable def eOpen : EntM := entC 69 fun a r => match a, r with
  | [], [] => some (True, .pointer (some ⟨0, 0, none⟩), [⟨bkC, false, .cells true⟩])
  | _, _ => none
noncomputable def eLenZ : EntM := entC 62 fun a r => match a, r with
  | [.int .i64 n], [] => some (True, .int .i64 (lenI n), [])
  | _, _ => none
noncomputable def tC : List EntM := [eOpen, eLenZ]
noncomputable abbrev EtC : Env := envT Try.prog tC
def szN (l : List UInt8) : Nat := (l.map fun c => hLen c.toNat).sum
def pSz : List Nat := [0, 1, 0, 1, 1]
def slSz (l : List UInt8) (s : Nat × Nat) : List (Nat × Value) := [(0, .string (bs l)), (3, .int .i64 (s.2 : Nat)), (6, .int .i64 (l.length : Nat)), (7, .int .i64 (s.1 : Nat))]
def wsSz (l : List UInt8) : List (Gate Unit) := [⟨.exit 0, fun _ => True, fun _ => [(3, .int .i64 (szN l : Nat))], fun _ => [], 0⟩]
def specSz : Sy.Spec := specOf 0 0 21 (fun l : List UInt8 => l.length ≤ 16777216) (fun l => slSz l (0, 0)) (fun _ => []) wsSz
def mSz := mOf [(59, pSz, specSz)]
structure GEn where
  l : List UInt8
  out : List UInt8
  i : Nat
  b : List Bool
def pE1 : List Nat := [0, 1, 0, 1, 1, 1, 1]
def pE2 : List Nat := [0, 1, 1, 1, 0, 0, 1, 1, 0, 0, 1, 0, 1, 1, 1, 1]
def slE1 (l : List UInt8) (s : Nat × List UInt8 × List Bool) : List (Nat × Value) := [(0, .string (bs l)), (3, .pointer (some ⟨0, 0, none⟩)), (4, slc 1 s.2.1.length), (5, .int .i64 (val s.2.2 : Nat)), (6, .int .i64 (s.2.2.length : Nat)), (11, .int .i64 (l.length : Nat)), (12, .int .i64 (s.1 : Nat))]
noncomputable def rlE (o : List UInt8) : List (Nat × Row) := [(0, ⟨bkC, false, .cells true⟩), (1, bOwn o)]
noncomputable def wsE1 (l : List UInt8) : List (Gate Unit) := [⟨.exit 0, fun _ => True, fun _ => [(4, slc 1 (byts (encB l)).length), (5, .int .i64 (val (rest (encB l)) : Nat)), (6, .int .i64 ((rest (encB l)).length : Nat))], fun _ => [(1, bOwn (byts (encB l)))], 2⟩]
noncomputable def specE1 : Sy.Spec := specOf 0 2 77 (fun l : List UInt8 => l.length ≤ 1048576) (fun l => slE1 l (0, [], [])) (fun _ => rlE []) wsE1
def slE2 (g : GEn) (s : List UInt8 × List Bool) : List (Nat × Value) := [(0, .string (bs g.l)), (3, .pointer (some ⟨0, 0, none⟩)), (4, slc 1 s.1.length), (5, .int .i64 (val s.2 : Nat)), (6, .int .i64 (s.2.length : Nat)), (11, .int .i64 (g.l.length : Nat)), (12, .int .i64 (g.i : Nat))]
noncomputable def wsE2 (g : GEn) : List (Gate Unit) := [⟨.exit 2, fun _ => True, fun _ => slE2 g (g.out ++ byts g.b, rest g.b), fun _ => rlE (g.out ++ byts g.b), 2⟩]
noncomputable def specE2 : Sy.Spec := specOf 0 2 77 (fun g : GEn => g.b.length ≤ 40 ∧ g.out.length ≤ 4194304) (fun g => slE2 g (g.out, g.b)) (fun g => rlE g.out) wsE2
noncomputable def mE2 := mOf [(60, pE2, specE2)]
noncomputable def mE := mOf [(60, pE1, specE1)]
theorem Sz_round (l : List UInt8) (s : Nat × Nat) (Inv : Nat × Nat → Prop) (m : Nat × Nat → Nat) : mev EtC noM 60 59 (0 :: pSz) false (codeOf Try.prog 59 (0 :: pSz)) ⟨mkOv (slSz l s), 21, []⟩ none ⟨mkR [], 0⟩ (roundK 0 0 21 Inv m (slSz l) (fun _ => []) (wsSz l) s) =
  (br (decide ((↑s.1 : Int) < (↑(List.length l) : Int))) (br (decide ((0 : Int) <= (↑s.1 : Int) /\ (↑s.1 : Int) < (↑(List.length (Array.toList (ByteArray.data (bs l)))) :
  Int))) ((((True /\ True) /\ (True /\ (True /\ True)))) /\ (∃ j : Nat × Nat, ((Inv j) /\ ((m j < m s) /\ ((bs l = bs l) /\ (((↑j.2 : Int) = IntKind.wrap IntKind.i64 ((↑s.2
  : Int) + lenI (IntKind.wrap IntKind.i64 (byteAt (bs l) (Int.toNat (↑s.1 : Int)))))) /\ (((↑(List.length l) : Int) = (↑(List.length l) : Int)) /\ (((↑j.1 : Int) =
  IntKind.wrap IntKind.i64 ((↑s.1 : Int) + (1 : Int))) /\ True)))))))) False) (∃ y : Unit, ((True) /\ (((↑(szN l) : Int) = (↑s.2 : Int)) /\ True)))) := by kernel_rfl
theorem Sz_vc (l : List UInt8) (v : Int) : mcall EtC mSz 60 59 [.string (bs l)] ⟨mkR (nums 0 []), 0⟩ (retIs 0 (.int .i64 v) []) =
  (∃ g : List UInt8, ((List.length g <= 16777216) /\ ((bs g = bs l) /\ (((0 : Int) = (0 : Int)) /\ (((↑(List.length g) : Int) = Int.ofNat (List.length (Array.toList
  (ByteArray.data (bs l))))) /\ (((0 : Int) = (0 : Int)) /\ (∀ (y : Unit), ((True) → ((v = IntKind.wrap IntKind.i64 (Int.tdiv (IntKind.wrap IntKind.i64 ((↑(szN g) : Int) +
  (7 : Int))) (8 : Int))) /\ True))))))))) := by kernel_rfl
theorem E2_round (g : GEn) (s : List UInt8 × List Bool) (Inv : List UInt8 × List Bool → Prop) (m : List UInt8 × List Bool → Nat) : mev EtC noM 60 60 (0 :: pE2) false (codeOf Try.prog 60 (0 :: pE2)) ⟨mkOv (slE2 g s), 77, []⟩ none ⟨mkR (rlE s.1), 2⟩ (roundK 0 2 77 Inv m (slE2 g) (fun s => rlE s.1) (wsE2 g) s) =
  (br (decide ((↑(List.length s.2) : Int) ≥ (8 : Int))) (br (decide ((0 : Int) <= IntKind.wrap IntKind.i64 ((↑(List.length s.2) : Int) - (8 : Int)))) (br (decide
  (List.length s.1 + 1 <= 16777216)) (br (decide (0 + List.length s.1 * 1 <= List.length (bCells s.1))) (br (decide ((0 : Int) <= IntKind.wrap IntKind.i64 ((↑(List.length
  s.2) : Int) - (8 : Int)))) (∃ j : List UInt8 × List Bool, ((Inv j) /\ ((m j < m s) /\ ((bs g.1 = bs g.1) /\ ((0 = 0) /\ ((0 = 0) /\ ((List.length j.1 = List.length s.1 +
  1) /\ (((↑(val j.2) : Int) = iand IntKind.i64 (↑(val s.2) : Int) (IntKind.wrap IntKind.i64 (ishl IntKind.i64 (1 : Int) (IntKind.wrap IntKind.i64 ((↑(List.length s.2) :
  Int) - (8 : Int))) - (1 : Int)))) /\ (((↑(List.length j.2) : Int) = IntKind.wrap IntKind.i64 ((↑(List.length s.2) : Int) - (8 : Int))) /\ (((↑(List.length g.1) : Int) =
  (↑(List.length g.1) : Int)) /\ (((↑g.3 : Int) = (↑g.3 : Int)) /\ ((Eq (α := List Value) (bkC) (bkC)) /\ ((Plain bkC) /\ ((Eq (α := List Value) (bCells j.1) (List.take
  (List.length s.1 * 1) (List.drop 0 (bCells s.1)) ++ [Value.int IntKind.u8 (IntKind.wrap IntKind.u8 (ishr IntKind.i64 (↑(val s.2) : Int) (IntKind.wrap IntKind.i64
  ((↑(List.length s.2) : Int) - (8 : Int)))))])) /\ ((Plain (bCells j.1)) /\ True))))))))))))))) False) False) False) False) (∃ y : Unit, ((True) /\ ((bs g.1 = bs g.1) /\
  ((0 = 0) /\ ((0 = 0) /\ ((List.length (g.2 ++ byts g.4) = List.length s.1) /\ (((↑(val (rest g.4)) : Int) = (↑(val s.2) : Int)) /\ (((↑(List.length (rest g.4)) : Int) =
  (↑(List.length s.2) : Int)) /\ (((↑(List.length g.1) : Int) = (↑(List.length g.1) : Int)) /\ (((↑g.3 : Int) = (↑g.3 : Int)) /\ ((Eq (α := List Value) (bkC) (bkC)) /\
  ((Plain bkC) /\ ((Eq (α := List Value) (bCells (g.2 ++ byts g.4)) (bCells s.1)) /\ ((Plain (bCells (g.2 ++ byts g.4))) /\ True))))))))))))))) := by kernel_rfl
theorem E1_round (l : List UInt8) (s : Nat × List UInt8 × List Bool) (Inv : Nat × List UInt8 × List Bool → Prop) (m : Nat × List UInt8 × List Bool → Nat) : mev EtC mE2 60 60 (0 :: pE1) false (codeOf Try.prog 60 (0 :: pE1)) ⟨mkOv (slE1 l s), 77, []⟩ none ⟨mkR (rlE s.2.1), 2⟩ (roundK 0 2 77 Inv m (slE1 l) (fun s => rlE s.2.1) (wsE1 l) s) =
  (br (decide ((↑s.1 : Int) < (↑(List.length l) : Int))) (br (decide ((0 : Int) <= (↑s.1 : Int) /\ (↑s.1 : Int) < (↑(List.length (Array.toList (ByteArray.data (bs l)))) :
  Int))) (br (decide ((0 : Int) <= byteAt (bs l) (Int.toNat (↑s.1 : Int)) /\ byteAt (bs l) (Int.toNat (↑s.1 : Int)) < (257 : Int))) ((Eq (α := Option Value) (bkC[0 +
  Int.toNat (byteAt (bs l) (Int.toNat (↑s.1 : Int))) * 1]?) (some (Value.int IntKind.i64 (cellI bkC (0 + Int.toNat (byteAt (bs l) (Int.toNat (↑s.1 : Int))) * 1))))) /\ (br
  (decide ((0 : Int) <= cellI bkC (0 + Int.toNat (byteAt (bs l) (Int.toNat (↑s.1 : Int))) * 1))) (br (decide ((0 : Int) <= (↑s.1 : Int) /\ (↑s.1 : Int) < (↑(List.length
  (Array.toList (ByteArray.data (bs l)))) : Int))) (br (decide ((0 : Int) <= byteAt (bs l) (Int.toNat (↑s.1 : Int)) /\ byteAt (bs l) (Int.toNat (↑s.1 : Int)) < (257 : Int)))
  ((Eq (α := Option Value) (bkC[257 + Int.toNat (byteAt (bs l) (Int.toNat (↑s.1 : Int))) * 1]?) (some (Value.int IntKind.i64 (cellI bkC (257 + Int.toNat (byteAt (bs l)
  (Int.toNat (↑s.1 : Int))) * 1))))) /\ ((Eq (α := Option Value) (bkC[0 + Int.toNat (byteAt (bs l) (Int.toNat (↑s.1 : Int))) * 1]?) (some (Value.int IntKind.i64 (cellI bkC
  (0 + Int.toNat (byteAt (bs l) (Int.toNat (↑s.1 : Int))) * 1))))) /\ ((Value.int IntKind.i64 (cellI bkC (0 + Int.toNat (byteAt (bs l) (Int.toNat (↑s.1 : Int))) * 1)) =
  Value.int IntKind.i64 (cellI bkC (0 + Int.toNat (byteAt (bs l) (Int.toNat (↑s.1 : Int))) * 1))) /\ ((Eq (α := Option Value) (bkC[257 + Int.toNat (byteAt (bs l) (Int.toNat
  (↑s.1 : Int))) * 1]?) (some (Value.int IntKind.i64 (cellI bkC (257 + Int.toNat (byteAt (bs l) (Int.toNat (↑s.1 : Int))) * 1))))) /\ ((Value.int IntKind.i64 (cellI bkC (257
  + Int.toNat (byteAt (bs l) (Int.toNat (↑s.1 : Int))) * 1)) = Value.int IntKind.i64 (cellI bkC (257 + Int.toNat (byteAt (bs l) (Int.toNat (↑s.1 : Int))) * 1))) /\ (br
  (decide ((0 : Int) <= (↑s.1 : Int) /\ (↑s.1 : Int) < (↑(List.length (Array.toList (ByteArray.data (bs l)))) : Int))) (br (decide ((0 : Int) <= byteAt (bs l) (Int.toNat
  (↑s.1 : Int)) /\ byteAt (bs l) (Int.toNat (↑s.1 : Int)) < (257 : Int))) ((Eq (α := Option Value) (bkC[0 + Int.toNat (byteAt (bs l) (Int.toNat (↑s.1 : Int))) * 1]?) (some
  (Value.int IntKind.i64 (cellI bkC (0 + Int.toNat (byteAt (bs l) (Int.toNat (↑s.1 : Int))) * 1))))) /\ ((Eq (α := Option Value) (bkC[0 + Int.toNat (byteAt (bs l) (Int.toNat
  (↑s.1 : Int))) * 1]?) (some (Value.int IntKind.i64 (cellI bkC (0 + Int.toNat (byteAt (bs l) (Int.toNat (↑s.1 : Int))) * 1))))) /\ ((Value.int IntKind.i64 (cellI bkC (0 +
  Int.toNat (byteAt (bs l) (Int.toNat (↑s.1 : Int))) * 1)) = Value.int IntKind.i64 (cellI bkC (0 + Int.toNat (byteAt (bs l) (Int.toNat (↑s.1 : Int))) * 1))) /\ (∃ g : GEn,
  ((List.length g.4 <= 40 /\ List.length g.2 <= 4194304) /\ ((bs g.1 = bs l) /\ ((0 = 0) /\ ((0 = 0) /\ ((List.length g.2 = List.length s.2.1) /\ (((↑(val g.4) : Int) = ior
  IntKind.i64 (ishl IntKind.i64 (↑(val s.2.2) : Int) (cellI bkC (0 + Int.toNat (byteAt (bs l) (Int.toNat (↑s.1 : Int))) * 1))) (cellI bkC (257 + Int.toNat (byteAt (bs l)
  (Int.toNat (↑s.1 : Int))) * 1))) /\ (((↑(List.length g.4) : Int) = IntKind.wrap IntKind.i64 ((↑(List.length s.2.2) : Int) + cellI bkC (0 + Int.toNat (byteAt (bs l)
  (Int.toNat (↑s.1 : Int))) * 1))) /\ (((↑(List.length g.1) : Int) = (↑(List.length l) : Int)) /\ (((↑g.3 : Int) = (↑s.1 : Int)) /\ ((Eq (α := List Value) (bkC) (bkC)) /\
  ((Plain bkC) /\ ((Eq (α := List Value) (bCells g.2) (bCells s.2.1)) /\ ((Plain (bCells g.2)) /\ (∀ (y : Unit), ((True) → (∃ j : Nat × List UInt8 × List Bool, ((Inv j) /\
  ((m j < m s) /\ ((bs l = bs g.1) /\ ((0 = 0) /\ ((0 = 0) /\ ((List.length j.2.1 = List.length (g.2 ++ byts g.4)) /\ (((↑(val j.2.2) : Int) = (↑(val (rest g.4)) : Int)) /\
  (((↑(List.length j.2.2) : Int) = (↑(List.length (rest g.4)) : Int)) /\ (((↑(List.length l) : Int) = (↑(List.length g.1) : Int)) /\ (((↑j.1 : Int) = IntKind.wrap
  IntKind.i64 ((↑g.3 : Int) + (1 : Int))) /\ ((Eq (α := List Value) (bkC) (bkC)) /\ ((Plain bkC) /\ ((Eq (α := List Value) (bCells j.2.1) (bCells (g.2 ++ byts g.4))) /\
  ((Plain (bCells j.2.1)) /\ True)))))))))))))))))))))))))))))))))) False) False)))))) False) False) False)) False) False) (∃ y : Unit, ((True) /\ ((0 = 0) /\ ((List.length
  (byts (encB l)) = List.length s.2.1) /\ (((↑(val (rest (encB l))) : Int) = (↑(val s.2.2) : Int)) /\ (((↑(List.length (rest (encB l))) : Int) = (↑(List.length s.2.2) :
  Int)) /\ ((Eq (α := List Value) (bCells (byts (encB l))) (bCells s.2.1)) /\ ((Plain (bCells (byts (encB l)))) /\ True))))))))) := by kernel_rfl
theorem E_vc (l r : List UInt8) : mcall EtC mE 60 60 [.string (bs l)] ⟨mkR (nums 0 []), 0⟩ (retIs 0 (slc 0 r.length) [bOwn r]) =
  (((True /\ (True /\ ((Plain bkC /\ True) /\ True)))) /\ (∃ g : List UInt8, ((List.length g <= 1048576) /\ ((bs g = bs l) /\ ((0 = 0) /\ ((0 = 0) /\ (((0 : Int) = (0 :
  Int)) /\ (((0 : Int) = (0 : Int)) /\ (((↑(List.length g) : Int) = Int.ofNat (List.length (Array.toList (ByteArray.data (bs l))))) /\ (((0 : Int) = (0 : Int)) /\ ((Eq (α :=
  List Value) (bkC) (bkC)) /\ ((Plain bkC) /\ ((Eq (α := List Value) ([]) ([])) /\ (∀ (y : Unit), ((True) → (br (decide ((↑(List.length (rest (encB g))) : Int) > (0 : Int)))
  (br (decide ((0 : Int) <= IntKind.wrap IntKind.i64 ((8 : Int) - (↑(List.length (rest (encB g))) : Int)))) (br (decide ((0 : Int) <= IntKind.wrap IntKind.i64 ((8 : Int) -
  (↑(List.length (rest (encB g))) : Int)))) (br (decide (List.length (byts (encB g)) + 1 <= 16777216)) (br (decide (0 + List.length (byts (encB g)) * 1 <= List.length
  (bCells (byts (encB g))))) ((Value.int IntKind.u8 (IntKind.wrap IntKind.u8 (ior IntKind.i64 (ishl IntKind.i64 (↑(val (rest (encB g))) : Int) (IntKind.wrap IntKind.i64 ((8
  : Int) - (↑(List.length (rest (encB g))) : Int)))) (IntKind.wrap IntKind.i64 (ishl IntKind.i64 (1 : Int) (IntKind.wrap IntKind.i64 ((8 : Int) - (↑(List.length (rest (encB
  g))) : Int))) - (1 : Int))))) = Value.int IntKind.u8 (IntKind.wrap IntKind.u8 (ior IntKind.i64 (ishl IntKind.i64 (↑(val (rest (encB g))) : Int) (IntKind.wrap IntKind.i64
  ((8 : Int) - (↑(List.length (rest (encB g))) : Int)))) (IntKind.wrap IntKind.i64 (ishl IntKind.i64 (1 : Int) (IntKind.wrap IntKind.i64 ((8 : Int) - (↑(List.length (rest
  (encB g))) : Int))) - (1 : Int)))))) /\ ((0 = 0) /\ ((List.length r = List.length (byts (encB g)) + 1) /\ ((Eq (α := List Value) (bCells r) (List.take (List.length (byts
  (encB g)) * 1) (List.drop 0 (bCells (byts (encB g)))) ++ [Value.int IntKind.u8 (IntKind.wrap IntKind.u8 (ior IntKind.i64 (ishl IntKind.i64 (↑(val (rest (encB g))) : Int)
  (IntKind.wrap IntKind.i64 ((8 : Int) - (↑(List.length (rest (encB g))) : Int)))) (IntKind.wrap IntKind.i64 (ishl IntKind.i64 (1 : Int) (IntKind.wrap IntKind.i64 ((8 : Int)
  - (↑(List.length (rest (encB g))) : Int))) - (1 : Int)))))])) /\ ((Plain (bCells r)) /\ True))))) False) False) False) False) ((0 = 0) /\ ((List.length r = List.length
  (byts (encB g))) /\ ((Eq (α := List Value) (bCells r) (bCells (byts (encB g)))) /\ ((Plain (bCells r)) /\ True)))))))))))))))))))) := by kernel_rfl
theorem z_bkC : bkC = nC (tbl 864 (f3 257)) := Classical.choose_spec (v_ex _)
theorem z_lenI (n : Int) : lenI n = hLenI n := Classical.choose_spec (int_ex0 _)
theorem eOpen_ok : EntOk Try.prog eOpen := entC_ok (by
  intro a rows p v news h hp
  split at h <;> simp only [Option.some.injEq, Prod.mk.injEq, reduceCtorEq] at h
  obtain ⟨rfl, rfl, rfl⟩ := h
  rw [z_bkC]
  exact open_con)
theorem eLenZ_ok : EntOk Try.prog eLenZ := entC_ok (by
  intro a rows p v news h hp
  split at h <;> simp only [Option.some.injEq, Prod.mk.injEq, reduceCtorEq] at h
  obtain ⟨rfl, rfl, rfl⟩ := h
  rw [z_lenI]
  exact len_con _)
theorem tC_ok : ∀ x ∈ tC, EntOk Try.prog x := all_cons eOpen_ok (all_cons eLenZ_ok (all_nil))
theorem br_nif {P : Prop} {d : Decidable P} {p q : Prop} (h1 : ¬ P) (h2 : ¬ P → q) : br (@decide P d) p q := by
  rw [show @decide P d = false from decide_eq_false h1]; exact h2 h1
theorem szN_app (a b : List UInt8) : szN (a ++ b) = szN a + szN b := by unfold szN; rw [List.map_append, List.sum_append]
theorem szN_le (l : List UInt8) : szN l ≤ 30 * l.length := by
  induction l with
  | nil => simp [szN]
  | cons c l ih =>
    have h : szN (c :: l) = hLen c.toNat + szN l := by unfold szN; rw [List.map_cons, List.sum_cons]
    have hb := len_bd c.toNat (by have := c.toNat_lt; omega)
    rw [h, List.length_cons]; omega
theorem Sz_piece : PieceOk EtC 0 (59, pSz, specSz) := by
  refine piece_loop mixed (calls_envT tC_ok) (lok_envT _ _) lm_none (n := 60) (by kernel_rfl) (fun _ => ((0, 0) : Nat × Nat)) (fun l s => s.1 ≤ l.length ∧ s.2 = szN (l.take s.1)) (fun l s => l.length - s.1) (sl := slSz) (rl := fun _ _ => []) (fun l hl => ⟨Nat.zero_le _, by simp [szN]⟩) (fun l s hl hi => ?_)
  refine (Sz_round l s _ _).mpr ?_
  obtain ⟨i, n⟩ := s
  obtain ⟨h1, h2⟩ := hi
  simp only at h1 h2
  have hlen : (bs l).data.toList.length = l.length := bs_len l
  simp only [ofNat_eq, toNat_cast, Nat.zero_add, Nat.add_zero, Nat.mul_one, List.drop_zero, bCells_len, bCells_drop, bCells_take, bCells_app, bCells_one, bCells_plain, List.length_replicate, List.length_append, List.length_take, List.length_drop, List.take_length, and_true, true_and, and_self, decide_true, List.length_nil, List.length_cons, Nat.sub_zero, dB_mk, dB_ro, List.take_zero, hlen, z_lenI]
  refine br_if (fun h => ?_) (fun h => ?_)
  · have hi : i < l.length := by omega
    have hc := l[i].toNat_lt
    have hb := len_bd l[i].toNat (by omega)
    have h3 := szN_le (l.take i)
    rw [List.length_take] at h3
    rw [byteAt_bs hi, w_nat _ (by omega), hLenI_nat _ (by omega), w_add _ _ (by omega), w_one _ (by omega)]
    refine br_dec (by omega) ⟨(i + 1, n + hLen l[i].toNat), ⟨by simp only; omega, ?_⟩, by simp only; omega, rfl, rfl⟩
    simp only
    rw [List.take_add_one, List.getElem?_eq_getElem hi, szN_app, h2]
    simp [szN]
  · have : i = l.length := by omega
    subst this
    rw [List.take_length] at h2
    exact ⟨(), by rw [h2]⟩
theorem Sz_con (l : List UInt8) (hl : l.length ≤ 16777216) : Con Try.prog 59 [.string (bs l)] [] (.int .i64 (((szN l + 7) / 8 : Nat) : Int)) [] := by
  refine con_vc (E := EtC) mixed (calls_envT tC_ok) (lok_envT _ _) (M := mSz) (lm_one Sz_piece) (Sz_vc l _) ?_
  have hlen : (bs l).data.toList.length = l.length := bs_len l
  simp only [ofNat_eq, toNat_cast, Nat.zero_add, Nat.add_zero, Nat.mul_one, List.drop_zero, bCells_len, bCells_drop, bCells_take, bCells_app, bCells_one, bCells_plain, List.length_replicate, List.length_append, List.length_take, List.length_drop, List.take_length, and_true, true_and, and_self, decide_true, List.length_nil, List.length_cons, Nat.sub_zero, dB_mk, dB_ro, List.take_zero, hlen]
  have hz := szN_le l
  refine ⟨l, hl, rfl, rfl, fun _ _ => ?_⟩
  rw [wr64_id (n := ((szN l : Nat) : Int) + 7) (by unfold I64; omega), Int.tdiv_eq_ediv_of_nonneg (by omega), wr64_id (by unfold I64; omega)]
  omega
theorem or_cat {a b : Nat} (k : Nat) (h : b < 2 ^ k) (ha : a * 2 ^ k + b < 9223372036854775808) : ior .i64 ((a * 2 ^ k : Nat) : Int) (b : Int) = ((a * 2 ^ k + b : Nat) : Int) := by
  rw [ior_nat (by omega) (by omega), Nat.mul_comm, Nat.two_pow_add_eq_or_of_lt h]
theorem p2le (k : Nat) (h : k ≤ 40) : 2 ^ k ≤ 1099511627776 := Nat.pow_le_pow_right (n := 2) (by omega) h
theorem sh1 (k : Nat) (h : k ≤ 40) : IntKind.i64.wrap (ishl .i64 1 (k : Int) - 1) = ((2 ^ k - 1 : Nat) : Int) := by
  have hp : 0 < 2 ^ k := Nat.two_pow_pos _
  have := p2le k h
  have e := ishl_nat (a := 1) (k := k) (by omega) (by omega)
  rw [show ((1 : Nat) : Int) = 1 from rfl] at e
  rw [e, Nat.one_mul, wr64_id (by unfold I64; omega)]
  omega
theorem E2_piece : PieceOk EtC 0 (60, pE2, specE2) := by
  refine piece_loop mixed (calls_envT tC_ok) (lok_envT _ _) lm_none (n := 60) (by kernel_rfl) (fun g : GEn => ((g.out, g.b) : List UInt8 × List Bool)) (fun g s => s.2.length ≤ 40 ∧ s.1.length + s.2.length / 8 ≤ 4194404 ∧ s.1 ++ byts s.2 = g.out ++ byts g.b ∧ rest s.2 = rest g.b) (fun g s => s.2.length) (sl := slE2) (rl := fun _ s => rlE s.1) (fun g hg => ⟨hg.1, by have := hg.1; have := hg.2; simp only; omega, rfl, rfl⟩) (fun g s hg hi => ?_)
  refine (E2_round g s _ _).mpr ?_
  obtain ⟨o, b⟩ := s
  obtain ⟨h1, h2, h3, h4⟩ := hi
  simp only at h1 h2 h3 h4
  simp only [ofNat_eq, toNat_cast, Nat.zero_add, Nat.add_zero, Nat.mul_one, List.drop_zero, bCells_len, bCells_drop, bCells_take, bCells_app, bCells_one, bCells_plain, List.length_replicate, List.length_append, List.length_take, List.length_drop, List.take_length, and_true, true_and, and_self, decide_true, List.length_nil, List.length_cons, Nat.sub_zero, dB_mk, dB_ro, List.take_zero, z_bkC]
  refine br_if (fun h => ?_) (fun h => ?_)
  · have h8 : 8 ≤ b.length := by omega
    have w1 : IntKind.i64.wrap ((b.length : Int) - 8) = ((b.length - 8 : Nat) : Int) := by rw [wr64_id (by unfold I64; omega)]; omega
    obtain ⟨v1, v2⟩ := val_take b 8 h8
    have hv := val_lt b
    have hb40 := p2le b.length h1
    have ht := val_lt (b.take 8)
    rw [List.length_take, show min 8 b.length = 8 by omega] at ht
    have hp : 0 < 2 ^ (b.length - 8) := Nat.two_pow_pos _
    have hp2 := p2le (b.length - 8) (by omega)
    have e1 : iand .i64 ((val b : Nat) : Int) ((2 ^ (b.length - 8) - 1 : Nat) : Int) = ((val (b.drop 8) : Nat) : Int) := by
      rw [iand_nat (by omega) (by omega), Nat.and_two_pow_sub_one_eq_mod, v2]
    have e2 : IntKind.u8.wrap (ishr .i64 ((val b : Nat) : Int) ((b.length - 8 : Nat) : Int)) = ((val (b.take 8) : Nat) : Int) := by
      rw [ishr_nat (by omega), ← v1, wru8_nat (by omega)]
    rw [w1, sh1 _ (by omega), e1, e2, bVal_nat (by omega)]
    refine br_dec (by omega) (br_dec (by omega) (br_dec (by omega) (br_dec (by omega) ⟨(o ++ [byN (b.take 8)], b.drop 8), ⟨?_, ?_, ?_, ?_⟩, ?_, ?_, rfl, ?_, nC_plain _, ?_⟩)))
    · simp only [List.length_drop]; omega
    · simp only [List.length_drop, List.length_append, List.length_cons, List.length_nil]; omega
    · simp only
      rw [← h3, byts_ge b h8, List.append_assoc]; rfl
    · simp only; rw [← h4, rest_ge b h8]
    · simp only [List.length_drop]; omega
    · simp
    · simp only [List.length_drop]
    · simp only
      rw [← bCells_app]; rfl
  · have h8 : b.length < 8 := by omega
    rw [byts_lt b h8, List.append_nil] at h3
    rw [rest_lt b h8] at h4
    rw [← h4, ← h3]
    exact ⟨(), by have := congrArg List.length h3; rw [List.length_append] at this; omega, rfl, rfl, nC_plain _, rfl⟩
theorem E1_piece : PieceOk EtC 0 (60, pE1, specE1) := by
  refine piece_loop mixed (calls_envT tC_ok) (lok_envT _ _) (lm_one E2_piece) (n := 60) (by kernel_rfl) (fun _ => ((0, [], []) : Nat × List UInt8 × List Bool)) (fun l s => s.1 ≤ l.length ∧ s.2.1 = byts (encB (l.take s.1)) ∧ s.2.2 = rest (encB (l.take s.1))) (fun l s => l.length - s.1) (sl := slE1) (rl := fun _ s => rlE s.2.1) (fun l hl => ⟨Nat.zero_le _, by simp [encB, byts_lt], by simp [encB, rest_lt]⟩) (fun l s hl hi => ?_)
  refine (E1_round l s _ _).mpr ?_
  obtain ⟨i, o, b⟩ := s
  obtain ⟨h1, h2, h3⟩ := hi
  simp only at h1 h2 h3
  have hlen : (bs l).data.toList.length = l.length := bs_len l
  simp only [ofNat_eq, toNat_cast, Nat.zero_add, Nat.add_zero, Nat.mul_one, List.drop_zero, bCells_len, bCells_drop, bCells_take, bCells_app, bCells_one, bCells_plain, List.length_replicate, List.length_append, List.length_take, List.length_drop, List.take_length, and_true, true_and, and_self, decide_true, List.length_nil, List.length_cons, Nat.sub_zero, dB_mk, dB_ro, List.take_zero, hlen, z_bkC]
  refine br_if (fun h => ?_) (fun h => ?_)
  · have hi : i < l.length := by omega
    have hc := l[i].toNat_lt
    obtain ⟨z1, z2⟩ := len_bd l[i].toNat (by omega)
    obtain ⟨q1, q2, _⟩ := fB l[i].toNat (by omega)
    have hcl := code_lt l[i].toNat (by omega)
    rw [byteAt_bs hi]
    simp (disch := omega) only [Int.toNat_natCast, tb_get, tb_cell, q1, q2]
    have hb8 : b.length < 8 := by rw [h3, rest_l]; omega
    have hvb := val_lt b
    have hp8 : 2 ^ b.length ≤ 2 ^ 7 := Nat.pow_le_pow_right (by omega) (by omega)
    have hpz : 2 ^ hLen l[i].toNat ≤ 2 ^ 30 := Nat.pow_le_pow_right (by omega) z2
    have hm : val b * 2 ^ hLen l[i].toNat ≤ 128 * 1073741824 := Nat.mul_le_mul (by omega) hpz
    have hol := encB_len (l.take i)
    rw [List.length_take] at hol
    have hol2 : o.length = (encB (l.take i)).length / 8 := by rw [h2, byts_l]
    have hl : l.length ≤ 1048576 := hl
    have e1 : ior .i64 (ishl .i64 ((val b : Nat) : Int) ((hLen l[i].toNat : Nat) : Int)) ((codeN l[i].toNat : Nat) : Int) = ((val (b ++ cB l[i].toNat) : Nat) : Int) := by
      rw [ishl_nat (by omega) (by omega), or_cat _ hcl (by omega), val_app, cB_val _ (by omega), cB_len]
    rw [e1, w_add _ _ (by omega)]
    refine br_dec (by omega) (br_dec (by omega) ⟨trivial, br_dec (by omega) (br_dec (by omega) (br_dec (by omega) ⟨trivial, trivial, trivial, br_dec (by omega) (br_dec (by omega) ⟨trivial, trivial, ⟨l, o, i, b ++ cB l[i].toNat⟩, ⟨by simp only [List.length_append, cB_len]; omega, by simp only; omega⟩, rfl, rfl, rfl, by simp only [List.length_append, cB_len], rfl, rfl, nC_plain _, rfl, fun _ _ => ?_⟩)⟩))⟩)
    have ht : l.take (i + 1) = l.take i ++ [l[i]] := by rw [List.take_add_one, List.getElem?_eq_getElem hi]; rfl
    have hcb : encB [l[i]] = cB l[i].toNat := by unfold encB; simp
    refine ⟨(i + 1, o ++ byts (b ++ cB l[i].toNat), rest (b ++ cB l[i].toNat)), ⟨by simp only; omega, ?_, ?_⟩, by simp only; omega, rfl, by simp only [List.length_append], rfl, rfl, rfl, w_one _ (by omega) |>.symm, nC_plain _, rfl⟩
    · simp only; rw [ht, encB_app, hcb, byts_app (encB (l.take i)), ← h2, ← h3]
    · simp only; rw [ht, encB_app, hcb, rest_app (encB (l.take i)), ← h3]
  · have : i = l.length := by omega
    subst this
    rw [List.take_length] at h2 h3
    rw [← h2, ← h3]
    exact ⟨(), rfl, rfl, rfl, rfl⟩
theorem En_con (l : List UInt8) (hl : l.length ≤ 1048576) : Con Try.prog 60 [.string (bs l)] [] (slc 0 (encL l).length) [bOwn (encL l)] := by
  refine con_vc (E := EtC) mixed (calls_envT tC_ok) (lok_envT _ _) (M := mE) (lm_one E1_piece) (E_vc l _) ?_
  have hlen : (bs l).data.toList.length = l.length := bs_len l
  simp only [ofNat_eq, toNat_cast, Nat.zero_add, Nat.add_zero, Nat.mul_one, List.drop_zero, bCells_len, bCells_drop, bCells_take, bCells_app, bCells_one, bCells_plain, List.length_replicate, List.length_append, List.length_take, List.length_drop, List.take_length, and_true, true_and, and_self, decide_true, List.length_nil, List.length_cons, Nat.sub_zero, dB_mk, dB_ro, List.take_zero, z_bkC, hlen]
  refine ⟨nC_plain _, l, hl, rfl, rfl, nC_plain _, fun _ _ => br_if (fun h => ?_) (fun h => ?_)⟩
  · have hr := rest_l (encB l)
    have hb := byts_l (encB l)
    have hn := encB_len l
    have hv := val_lt (rest (encB l))
    have he := encL_eq l
    rw [if_neg (by omega)] at he
    rw [he]
    generalize rest (encB l) = R at *
    have hk : R.length ≤ 7 := by omega
    have w1 : IntKind.i64.wrap (8 - (R.length : Int)) = ((8 - R.length : Nat) : Int) := by rw [wr64_id (by unfold I64; omega)]; omega
    have hp8 : 2 ^ R.length ≤ 2 ^ 7 := Nat.pow_le_pow_right (by omega) hk
    have hq8 : 2 ^ (8 - R.length) ≤ 2 ^ 8 := Nat.pow_le_pow_right (by omega) (by omega)
    have hq0 : 0 < 2 ^ (8 - R.length) := Nat.two_pow_pos _
    have hm : val R * 2 ^ (8 - R.length) ≤ 128 * 256 := Nat.mul_le_mul (by omega) hq8
    have hvn := val_lt (R ++ List.replicate (8 - R.length) true)
    rw [List.length_append, List.length_replicate, show R.length + (8 - R.length) = 8 by omega] at hvn
    have e1 : ior .i64 (ishl .i64 ((val R : Nat) : Int) ((8 - R.length : Nat) : Int)) ((2 ^ (8 - R.length) - 1 : Nat) : Int) = ((val (R ++ List.replicate (8 - R.length) true) : Nat) : Int) := by
      rw [ishl_nat (by omega) (by omega), or_cat _ (by omega) (by omega), val_app, val_ones, List.length_replicate]
    rw [w1, sh1 _ (by omega), e1, wru8_nat (by omega), bVal_nat (by omega)]
    refine br_dec (by omega) (br_dec (by omega) (br_dec (by omega) (br_dec (by omega) ⟨by simp, ?_⟩)))
    rw [← bCells_app]; rfl
  · have he := encL_eq l
    rw [if_pos (by omega)] at he
    rw [he]; exact ⟨rfl, rfl⟩
end Go.Proofs.Ytlkinjlbaeigdaa.hf
