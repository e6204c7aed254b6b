/- The document's own book of the code, made: rounds with the length as a literal. -/
import Derived.Test.YtbpeollodpjicaaSz9
import Derived.Test.YtbpeollodpjicaaRows
import Derived.Test.YtbpeollodpjicaaLhfM
set_option maxRecDepth 20000
set_option linter.unusedSimpArgs false
set_option linter.unusedVariables false
namespace Go.Proofs.Ytbpeollodpjicaa.md
open Go Go.Ev Go.Sy Go.RowKit Go.Proofs.Ytbpeollodpjicaa.gl Go.Proofs.Ytbpeollodpjicaa.tk Go.Proofs.Ytbpeollodpjicaa.hf
theorem sl_ex {α : Type} (f : α) : ∃ g : α, g = f := ⟨f, rfl⟩
noncomputable def sealV {α : Type} (f : α) : α := Classical.choose (sl_ex f)
theorem sealV_eq {α : Type} (f : α) : sealV f = f := Classical.choose_spec (sl_ex f)
def pMi : List Nat := [0, 1, 1, 1, 0, 0, 1, 0, 0, 1, 0, 1, 1, 1]
abbrev E0 (n : Int) : Prop := n = n
def E1 (l : List Int) (p : Prop) : Prop := l.foldr (fun n q => n = n ∧ q) p
def stM (K : Nat) : Nat := bif Nat.ble K 30 then stN K else 257
def syL (K j : Nat) : List Nat := ordL.take (stM K) ++ ((List.range j).filter fun s => decide (hLen s = K))
noncomputable def syZ : Nat → Nat → List Nat := sealV syL
noncomputable def usZ : Nat → Nat → Nat := sealV used
def zeros : List Value := List.replicate 93 (.int .i64 0)
def fstC (K : Nat) : List Value := (List.range 31).map fun i => .int .i64 (bif Nat.ble i K && Nat.ble 1 i then ((fstN i : Nat) : Int) else 0)
def manC (K : Nat) (m : Int) : List Value := (List.range 31).map fun i => .int .i64 (bif Nat.blt i K && Nat.ble 1 i then ((cntN i : Nat) : Int) else bif Nat.beq i K then m else 0)
def frmC (K : Nat) : List Value := (List.range 31).map fun i => .int .i64 (bif Nat.ble i K && Nat.ble 1 i then ((stN i : Nat) : Int) else 0)
def rwM (K : Nat) (m : Int) (n : Nat) : Row := ⟨fstC K ++ manC K m ++ frmC K ++ [.slice (some ⟨2, 0, none⟩) n 1], false, .cells false⟩
def rw0 : Row := ⟨zeros ++ [.slice none 0 0], false, .cells false⟩
def lsK (K : Nat) (_ : Nat) (u : Int) (n : Nat) : List Value := fstC K ++ manC K u ++ frmC K ++ [.slice (some ⟨4, 0, none⟩) n 1]
noncomputable def slM (K : Nat) (j : Nat) : List (Nat × Value) := [(0, .pointer (some ⟨0, 0, none⟩)), (1, .pointer (some ⟨1, 0, none⟩)), (2, .int .i64 ((fstN K : Nat) + (usZ K j : Nat))), (3, .int .i64 (K : Nat)), (4, .int .i64 (j : Nat))]
noncomputable def rlM (K : Nat) (j : Nat) : List (Nat × Row) := [(0, rw0), (1, rwM K (usZ K j : Nat) (syZ K j).length), (2, ⟨nC (syZ K j), false, .cells true⟩)]
noncomputable def slE (K : Nat) : List (Nat × Value) := [(0, .pointer (some ⟨0, 0, none⟩)), (1, .pointer (some ⟨1, 0, none⟩)), (2, .int .i64 ((fstN K + cntN K : Nat) : Int)), (3, .int .i64 (K : Nat))]
noncomputable def rlE (K : Nat) : List (Nat × Row) := [(0, rw0), (1, rwM K (cntN K : Nat) (stM (K + 1))), (2, ⟨nC (syZ (K + 1) 0), false, .cells true⟩)]
noncomputable def wsM (K : Nat) : List (Gate Unit) := [⟨.exit 2, fun _ => True, fun _ => slE K, fun _ => rlE K, 3⟩]
noncomputable def specK (K : Nat) : Sy.Spec := specOf 0 3 45 (fun _ : Unit => True) (fun _ => slM K 0) (fun _ => rlM K 0) (fun _ => wsM K)
noncomputable def tM : List EntM := [eLen]
noncomputable abbrev EtM : Env := envT Try.prog tM
set_option maxHeartbeats 4000000
theorem E1_eq (p : Prop) : ∀ l : List Int, E1 l p = p
  | [] => rfl
  | n :: l => by
    show (n = n ∧ E1 l p) = p
    rw [E1_eq p l]; simp
theorem z_sy (K j : Nat) : syZ K j = syL K j := by unfold syZ; rw [sealV_eq]
theorem z_us (K j : Nat) : usZ K j = used K j := by unfold usZ; rw [sealV_eq]
theorem tM_ok : ∀ x ∈ tM, EntOk Try.prog x := all_cons eLen_ok (all_nil)
theorem M1_round (j : Nat) (Inv : Nat → Prop) (m : Nat → Nat) : mev EtM noM 60 27 (0 :: pMi) false (codeOf Try.prog 27 (0 :: pMi)) ⟨mkOv (slM 1 j), 45, []⟩ none ⟨mkR (rlM 1 j), 3⟩ (roundK 0 3 45 Inv m (slM 1) (rlM 1) (wsM 1) j) =
  (br (decide ((↑j : Int) <= (256 : Int))) ((((True /\ True) /\ (True /\ (True /\ True)))) /\ (br (hLenI (↑j : Int) == (1 : Int)) (br (decide (List.length (syZ 1 j) + 1 <=
  16777216)) (br (decide (0 + List.length (syZ 1 j) * 1 <= List.length (nC (syZ 1 j)))) ((Eq (α := Option Value) (some (Value.int IntKind.i64 (↑(usZ 1 j) : Int))) (some
  (Value.int IntKind.i64 (cellI (lsK 1 j (usZ 1 j : Nat) (List.length (syZ 1 j) + 1)) 32)))) /\ (∃ j2 : Nat, ((Inv j2) /\ ((m j2 < m j) /\ ((0 = 0) /\ ((0 = 0) /\ (((0 :
  Int) + (↑(usZ 1 j2) : Int) = IntKind.wrap IntKind.i64 ((0 : Int) + (↑(usZ 1 j) : Int) + (1 : Int))) /\ ((E0 1) /\ (((↑j2 : Int) = IntKind.wrap IntKind.i64 ((↑j : Int) + (1
  : Int))) /\ (E1 [0, 0, 0, 0, 0, 0, 0, 0, 0, 0, 0, 0, 0, 0, 0, 0, 0, 0, 0, 0, 0, 0, 0, 0, 0, 0, 0, 0, 0, 0, 0, 0, 0, 0, 0, 0, 0, 0, 0, 0, 0, 0, 0, 0, 0, 0, 0, 0, 0, 0, 0,
  0, 0, 0, 0, 0, 0, 0, 0, 0, 0, 0, 0, 0, 0, 0, 0, 0, 0, 0, 0, 0, 0, 0, 0, 0, 0, 0, 0, 0, 0, 0, 0, 0, 0, 0, 0, 0, 0, 0, 0, 0, 0, 0, 0, 0, 0, 0, 0, 0, 0, 0, 0, 0, 0, 0, 0, 0,
  0, 0, 0, 0, 0, 0, 0, 0, 0, 0, 0, 0, 0, 0, 0, 0, 0] (((↑(usZ 1 j2) : Int) = IntKind.wrap IntKind.i64 (cellI (lsK 1 j (usZ 1 j : Nat) (List.length (syZ 1 j) + 1)) 32 + (1 :
  Int))) /\ (E1 [0, 0, 0, 0, 0, 0, 0, 0, 0, 0, 0, 0, 0, 0, 0, 0, 0, 0, 0, 0, 0, 0, 0, 0, 0, 0, 0, 0, 0, 0, 0, 0, 0, 0, 0, 0, 0, 0, 0, 0, 0, 0, 0, 0, 0, 0, 0, 0, 0, 0, 0, 0,
  0, 0, 0, 0, 0, 0, 0, 0] ((0 = 0) /\ ((List.length (syZ 1 j2) = List.length (syZ 1 j) + 1) /\ ((Eq (α := List Value) (nC (syZ 1 j2)) (List.take (List.length (syZ 1 j) * 1)
  (List.drop 0 (nC (syZ 1 j))) ++ [Value.int IntKind.i64 (↑j : Int)])) /\ ((Plain (nC (syZ 1 j2))) /\ True)))))))))))))))) False) False) (∃ j2 : Nat, ((Inv j2) /\ ((m j2 < m
  j) /\ ((0 = 0) /\ ((0 = 0) /\ (((0 : Int) + (↑(usZ 1 j2) : Int) = (0 : Int) + (↑(usZ 1 j) : Int)) /\ ((E0 1) /\ (((↑j2 : Int) = IntKind.wrap IntKind.i64 ((↑j : Int) + (1 :
  Int))) /\ (E1 [0, 0, 0, 0, 0, 0, 0, 0, 0, 0, 0, 0, 0, 0, 0, 0, 0, 0, 0, 0, 0, 0, 0, 0, 0, 0, 0, 0, 0, 0, 0, 0, 0, 0, 0, 0, 0, 0, 0, 0, 0, 0, 0, 0, 0, 0, 0, 0, 0, 0, 0, 0,
  0, 0, 0, 0, 0, 0, 0, 0, 0, 0, 0, 0, 0, 0, 0, 0, 0, 0, 0, 0, 0, 0, 0, 0, 0, 0, 0, 0, 0, 0, 0, 0, 0, 0, 0, 0, 0, 0, 0, 0, 0, 0, 0, 0, 0, 0, 0, 0, 0, 0, 0, 0, 0, 0, 0, 0, 0,
  0, 0, 0, 0, 0, 0, 0, 0, 0, 0, 0, 0, 0, 0, 0, 0] (((↑(usZ 1 j2) : Int) = (↑(usZ 1 j) : Int)) /\ (E1 [0, 0, 0, 0, 0, 0, 0, 0, 0, 0, 0, 0, 0, 0, 0, 0, 0, 0, 0, 0, 0, 0, 0, 0,
  0, 0, 0, 0, 0, 0, 0, 0, 0, 0, 0, 0, 0, 0, 0, 0, 0, 0, 0, 0, 0, 0, 0, 0, 0, 0, 0, 0, 0, 0, 0, 0, 0, 0, 0, 0] ((0 = 0) /\ ((List.length (syZ 1 j2) = List.length (syZ 1 j))
  /\ ((Eq (α := List Value) (nC (syZ 1 j2)) (nC (syZ 1 j))) /\ ((Plain (nC (syZ 1 j2))) /\ True))))))))))))))))) (∃ y : Unit, ((True) /\ ((0 = 0) /\ ((0 = 0) /\ (((0 : Int)
  = (0 : Int) + (↑(usZ 1 j) : Int)) /\ (E1 [1, 0, 0, 0, 0, 0, 0, 0, 0, 0, 0, 0, 0, 0, 0, 0, 0, 0, 0, 0, 0, 0, 0, 0, 0, 0, 0, 0, 0, 0, 0, 0, 0, 0, 0, 0, 0, 0, 0, 0, 0, 0, 0,
  0, 0, 0, 0, 0, 0, 0, 0, 0, 0, 0, 0, 0, 0, 0, 0, 0, 0, 0, 0, 0, 0, 0, 0, 0, 0, 0, 0, 0, 0, 0, 0, 0, 0, 0, 0, 0, 0, 0, 0, 0, 0, 0, 0, 0, 0, 0, 0, 0, 0, 0, 0, 0, 0, 0, 0, 0,
  0, 0, 0, 0, 0, 0, 0, 0, 0, 0, 0, 0, 0, 0, 0, 0, 0, 0, 0, 0, 0, 0, 0, 0, 0, 0] (((0 : Int) = (↑(usZ 1 j) : Int)) /\ (E1 [0, 0, 0, 0, 0, 0, 0, 0, 0, 0, 0, 0, 0, 0, 0, 0, 0,
  0, 0, 0, 0, 0, 0, 0, 0, 0, 0, 0, 0, 0, 0, 0, 0, 0, 0, 0, 0, 0, 0, 0, 0, 0, 0, 0, 0, 0, 0, 0, 0, 0, 0, 0, 0, 0, 0, 0, 0, 0, 0, 0] ((0 = 0) /\ ((0 = List.length (syZ 1 j))
  /\ ((Eq (α := List Value) (nC (syZ (1 + 1) 0)) (nC (syZ 1 j))) /\ ((Plain (nC (syZ (1 + 1) 0))) /\ True))))))))))))) := by kernel_rfl
theorem M2_round (j : Nat) (Inv : Nat → Prop) (m : Nat → Nat) : mev EtM noM 60 27 (0 :: pMi) false (codeOf Try.prog 27 (0 :: pMi)) ⟨mkOv (slM 2 j), 45, []⟩ none ⟨mkR (rlM 2 j), 3⟩ (roundK 0 3 45 Inv m (slM 2) (rlM 2) (wsM 2) j) =
  (br (decide ((↑j : Int) <= (256 : Int))) ((((True /\ True) /\ (True /\ (True /\ True)))) /\ (br (hLenI (↑j : Int) == (2 : Int)) (br (decide (List.length (syZ 2 j) + 1 <=
  16777216)) (br (decide (0 + List.length (syZ 2 j) * 1 <= List.length (nC (syZ 2 j)))) ((Eq (α := Option Value) (some (Value.int IntKind.i64 (↑(usZ 2 j) : Int))) (some
  (Value.int IntKind.i64 (cellI (lsK 2 j (usZ 2 j : Nat) (List.length (syZ 2 j) + 1)) 33)))) /\ (∃ j2 : Nat, ((Inv j2) /\ ((m j2 < m j) /\ ((0 = 0) /\ ((0 = 0) /\ (((0 :
  Int) + (↑(usZ 2 j2) : Int) = IntKind.wrap IntKind.i64 ((0 : Int) + (↑(usZ 2 j) : Int) + (1 : Int))) /\ ((E0 2) /\ (((↑j2 : Int) = IntKind.wrap IntKind.i64 ((↑j : Int) + (1
  : Int))) /\ (E1 [0, 0, 0, 0, 0, 0, 0, 0, 0, 0, 0, 0, 0, 0, 0, 0, 0, 0, 0, 0, 0, 0, 0, 0, 0, 0, 0, 0, 0, 0, 0, 0, 0, 0, 0, 0, 0, 0, 0, 0, 0, 0, 0, 0, 0, 0, 0, 0, 0, 0, 0,
  0, 0, 0, 0, 0, 0, 0, 0, 0, 0, 0, 0, 0, 0, 0, 0, 0, 0, 0, 0, 0, 0, 0, 0, 0, 0, 0, 0, 0, 0, 0, 0, 0, 0, 0, 0, 0, 0, 0, 0, 0, 0, 0, 0, 0, 0, 0, 0, 0, 0, 0, 0, 0, 0, 0, 0, 0,
  0, 0, 0, 0, 0, 0, 0, 0, 0, 0, 0, 0, 0, 0, 0, 0, 0, 0] (((↑(usZ 2 j2) : Int) = IntKind.wrap IntKind.i64 (cellI (lsK 2 j (usZ 2 j : Nat) (List.length (syZ 2 j) + 1)) 33 + (1
  : Int))) /\ (E1 [0, 0, 0, 0, 0, 0, 0, 0, 0, 0, 0, 0, 0, 0, 0, 0, 0, 0, 0, 0, 0, 0, 0, 0, 0, 0, 0, 0, 0, 0, 0, 0, 0, 0, 0, 0, 0, 0, 0, 0, 0, 0, 0, 0, 0, 0, 0, 0, 0, 0, 0,
  0, 0, 0, 0, 0, 0, 0, 0] ((0 = 0) /\ ((List.length (syZ 2 j2) = List.length (syZ 2 j) + 1) /\ ((Eq (α := List Value) (nC (syZ 2 j2)) (List.take (List.length (syZ 2 j) * 1)
  (List.drop 0 (nC (syZ 2 j))) ++ [Value.int IntKind.i64 (↑j : Int)])) /\ ((Plain (nC (syZ 2 j2))) /\ True)))))))))))))))) False) False) (∃ j2 : Nat, ((Inv j2) /\ ((m j2 < m
  j) /\ ((0 = 0) /\ ((0 = 0) /\ (((0 : Int) + (↑(usZ 2 j2) : Int) = (0 : Int) + (↑(usZ 2 j) : Int)) /\ ((E0 2) /\ (((↑j2 : Int) = IntKind.wrap IntKind.i64 ((↑j : Int) + (1 :
  Int))) /\ (E1 [0, 0, 0, 0, 0, 0, 0, 0, 0, 0, 0, 0, 0, 0, 0, 0, 0, 0, 0, 0, 0, 0, 0, 0, 0, 0, 0, 0, 0, 0, 0, 0, 0, 0, 0, 0, 0, 0, 0, 0, 0, 0, 0, 0, 0, 0, 0, 0, 0, 0, 0, 0,
  0, 0, 0, 0, 0, 0, 0, 0, 0, 0, 0, 0, 0, 0, 0, 0, 0, 0, 0, 0, 0, 0, 0, 0, 0, 0, 0, 0, 0, 0, 0, 0, 0, 0, 0, 0, 0, 0, 0, 0, 0, 0, 0, 0, 0, 0, 0, 0, 0, 0, 0, 0, 0, 0, 0, 0, 0,
  0, 0, 0, 0, 0, 0, 0, 0, 0, 0, 0, 0, 0, 0, 0, 0, 0] (((↑(usZ 2 j2) : Int) = (↑(usZ 2 j) : Int)) /\ (E1 [0, 0, 0, 0, 0, 0, 0, 0, 0, 0, 0, 0, 0, 0, 0, 0, 0, 0, 0, 0, 0, 0, 0,
  0, 0, 0, 0, 0, 0, 0, 0, 0, 0, 0, 0, 0, 0, 0, 0, 0, 0, 0, 0, 0, 0, 0, 0, 0, 0, 0, 0, 0, 0, 0, 0, 0, 0, 0, 0] ((0 = 0) /\ ((List.length (syZ 2 j2) = List.length (syZ 2 j))
  /\ ((Eq (α := List Value) (nC (syZ 2 j2)) (nC (syZ 2 j))) /\ ((Plain (nC (syZ 2 j2))) /\ True))))))))))))))))) (∃ y : Unit, ((True) /\ ((0 = 0) /\ ((0 = 0) /\ (((0 : Int)
  = (0 : Int) + (↑(usZ 2 j) : Int)) /\ (E1 [2, 0, 0, 0, 0, 0, 0, 0, 0, 0, 0, 0, 0, 0, 0, 0, 0, 0, 0, 0, 0, 0, 0, 0, 0, 0, 0, 0, 0, 0, 0, 0, 0, 0, 0, 0, 0, 0, 0, 0, 0, 0, 0,
  0, 0, 0, 0, 0, 0, 0, 0, 0, 0, 0, 0, 0, 0, 0, 0, 0, 0, 0, 0, 0, 0, 0, 0, 0, 0, 0, 0, 0, 0, 0, 0, 0, 0, 0, 0, 0, 0, 0, 0, 0, 0, 0, 0, 0, 0, 0, 0, 0, 0, 0, 0, 0, 0, 0, 0, 0,
  0, 0, 0, 0, 0, 0, 0, 0, 0, 0, 0, 0, 0, 0, 0, 0, 0, 0, 0, 0, 0, 0, 0, 0, 0, 0, 0] (((0 : Int) = (↑(usZ 2 j) : Int)) /\ (E1 [0, 0, 0, 0, 0, 0, 0, 0, 0, 0, 0, 0, 0, 0, 0, 0,
  0, 0, 0, 0, 0, 0, 0, 0, 0, 0, 0, 0, 0, 0, 0, 0, 0, 0, 0, 0, 0, 0, 0, 0, 0, 0, 0, 0, 0, 0, 0, 0, 0, 0, 0, 0, 0, 0, 0, 0, 0, 0, 0] ((0 = 0) /\ ((0 = List.length (syZ 2 j))
  /\ ((Eq (α := List Value) (nC (syZ (2 + 1) 0)) (nC (syZ 2 j))) /\ ((Plain (nC (syZ (2 + 1) 0))) /\ True))))))))))))) := by kernel_rfl
theorem M3_round (j : Nat) (Inv : Nat → Prop) (m : Nat → Nat) : mev EtM noM 60 27 (0 :: pMi) false (codeOf Try.prog 27 (0 :: pMi)) ⟨mkOv (slM 3 j), 45, []⟩ none ⟨mkR (rlM 3 j), 3⟩ (roundK 0 3 45 Inv m (slM 3) (rlM 3) (wsM 3) j) =
  (br (decide ((↑j : Int) <= (256 : Int))) ((((True /\ True) /\ (True /\ (True /\ True)))) /\ (br (hLenI (↑j : Int) == (3 : Int)) (br (decide (List.length (syZ 3 j) + 1 <=
  16777216)) (br (decide (0 + List.length (syZ 3 j) * 1 <= List.length (nC (syZ 3 j)))) ((Eq (α := Option Value) (some (Value.int IntKind.i64 (↑(usZ 3 j) : Int))) (some
  (Value.int IntKind.i64 (cellI (lsK 3 j (usZ 3 j : Nat) (List.length (syZ 3 j) + 1)) 34)))) /\ (∃ j2 : Nat, ((Inv j2) /\ ((m j2 < m j) /\ ((0 = 0) /\ ((0 = 0) /\ (((0 :
  Int) + (↑(usZ 3 j2) : Int) = IntKind.wrap IntKind.i64 ((0 : Int) + (↑(usZ 3 j) : Int) + (1 : Int))) /\ ((E0 3) /\ (((↑j2 : Int) = IntKind.wrap IntKind.i64 ((↑j : Int) + (1
  : Int))) /\ (E1 [0, 0, 0, 0, 0, 0, 0, 0, 0, 0, 0, 0, 0, 0, 0, 0, 0, 0, 0, 0, 0, 0, 0, 0, 0, 0, 0, 0, 0, 0, 0, 0, 0, 0, 0, 0, 0, 0, 0, 0, 0, 0, 0, 0, 0, 0, 0, 0, 0, 0, 0,
  0, 0, 0, 0, 0, 0, 0, 0, 0, 0, 0, 0, 0, 0, 0, 0, 0, 0, 0, 0, 0, 0, 0, 0, 0, 0, 0, 0, 0, 0, 0, 0, 0, 0, 0, 0, 0, 0, 0, 0, 0, 0, 0, 0, 0, 0, 0, 0, 0, 0, 0, 0, 0, 0, 0, 0, 0,
  0, 0, 0, 0, 0, 0, 0, 0, 0, 0, 0, 0, 0, 0, 0, 0, 0, 0, 0] (((↑(usZ 3 j2) : Int) = IntKind.wrap IntKind.i64 (cellI (lsK 3 j (usZ 3 j : Nat) (List.length (syZ 3 j) + 1)) 34 +
  (1 : Int))) /\ (E1 [0, 0, 0, 0, 0, 0, 0, 0, 0, 0, 0, 0, 0, 0, 0, 0, 0, 0, 0, 0, 0, 0, 0, 0, 0, 0, 0, 0, 0, 0, 0, 0, 0, 0, 0, 0, 0, 0, 0, 0, 0, 0, 0, 0, 0, 0, 0, 0, 0, 0,
  0, 0, 0, 0, 0, 0, 0, 0] ((0 = 0) /\ ((List.length (syZ 3 j2) = List.length (syZ 3 j) + 1) /\ ((Eq (α := List Value) (nC (syZ 3 j2)) (List.take (List.length (syZ 3 j) * 1)
  (List.drop 0 (nC (syZ 3 j))) ++ [Value.int IntKind.i64 (↑j : Int)])) /\ ((Plain (nC (syZ 3 j2))) /\ True)))))))))))))))) False) False) (∃ j2 : Nat, ((Inv j2) /\ ((m j2 < m
  j) /\ ((0 = 0) /\ ((0 = 0) /\ (((0 : Int) + (↑(usZ 3 j2) : Int) = (0 : Int) + (↑(usZ 3 j) : Int)) /\ ((E0 3) /\ (((↑j2 : Int) = IntKind.wrap IntKind.i64 ((↑j : Int) + (1 :
  Int))) /\ (E1 [0, 0, 0, 0, 0, 0, 0, 0, 0, 0, 0, 0, 0, 0, 0, 0, 0, 0, 0, 0, 0, 0, 0, 0, 0, 0, 0, 0, 0, 0, 0, 0, 0, 0, 0, 0, 0, 0, 0, 0, 0, 0, 0, 0, 0, 0, 0, 0, 0, 0, 0, 0,
  0, 0, 0, 0, 0, 0, 0, 0, 0, 0, 0, 0, 0, 0, 0, 0, 0, 0, 0, 0, 0, 0, 0, 0, 0, 0, 0, 0, 0, 0, 0, 0, 0, 0, 0, 0, 0, 0, 0, 0, 0, 0, 0, 0, 0, 0, 0, 0, 0, 0, 0, 0, 0, 0, 0, 0, 0,
  0, 0, 0, 0, 0, 0, 0, 0, 0, 0, 0, 0, 0, 0, 0, 0, 0, 0] (((↑(usZ 3 j2) : Int) = (↑(usZ 3 j) : Int)) /\ (E1 [0, 0, 0, 0, 0, 0, 0, 0, 0, 0, 0, 0, 0, 0, 0, 0, 0, 0, 0, 0, 0, 0,
  0, 0, 0, 0, 0, 0, 0, 0, 0, 0, 0, 0, 0, 0, 0, 0, 0, 0, 0, 0, 0, 0, 0, 0, 0, 0, 0, 0, 0, 0, 0, 0, 0, 0, 0, 0] ((0 = 0) /\ ((List.length (syZ 3 j2) = List.length (syZ 3 j))
  /\ ((Eq (α := List Value) (nC (syZ 3 j2)) (nC (syZ 3 j))) /\ ((Plain (nC (syZ 3 j2))) /\ True))))))))))))))))) (∃ y : Unit, ((True) /\ ((0 = 0) /\ ((0 = 0) /\ (((0 : Int)
  = (0 : Int) + (↑(usZ 3 j) : Int)) /\ (E1 [3, 0, 0, 0, 0, 0, 0, 0, 0, 0, 0, 0, 0, 0, 0, 0, 0, 0, 0, 0, 0, 0, 0, 0, 0, 0, 0, 0, 0, 0, 0, 0, 0, 0, 0, 0, 0, 0, 0, 0, 0, 0, 0,
  0, 0, 0, 0, 0, 0, 0, 0, 0, 0, 0, 0, 0, 0, 0, 0, 0, 0, 0, 0, 0, 0, 0, 0, 0, 0, 0, 0, 0, 0, 0, 0, 0, 0, 0, 0, 0, 0, 0, 0, 0, 0, 0, 0, 0, 0, 0, 0, 0, 0, 0, 0, 0, 0, 0, 0, 0,
  0, 0, 0, 0, 0, 0, 0, 0, 0, 0, 0, 0, 0, 0, 0, 0, 0, 0, 0, 0, 0, 0, 0, 0, 0, 0, 0, 0] (((0 : Int) = (↑(usZ 3 j) : Int)) /\ (E1 [0, 0, 0, 0, 0, 0, 0, 0, 0, 0, 0, 0, 0, 0, 0,
  0, 0, 0, 0, 0, 0, 0, 0, 0, 0, 0, 0, 0, 0, 0, 0, 0, 0, 0, 0, 0, 0, 0, 0, 0, 0, 0, 0, 0, 0, 0, 0, 0, 0, 0, 0, 0, 0, 0, 0, 0, 0, 0] ((0 = 0) /\ ((0 = List.length (syZ 3 j))
  /\ ((Eq (α := List Value) (nC (syZ (3 + 1) 0)) (nC (syZ 3 j))) /\ ((Plain (nC (syZ (3 + 1) 0))) /\ True))))))))))))) := by kernel_rfl
theorem M4_round (j : Nat) (Inv : Nat → Prop) (m : Nat → Nat) : mev EtM noM 60 27 (0 :: pMi) false (codeOf Try.prog 27 (0 :: pMi)) ⟨mkOv (slM 4 j), 45, []⟩ none ⟨mkR (rlM 4 j), 3⟩ (roundK 0 3 45 Inv m (slM 4) (rlM 4) (wsM 4) j) =
  (br (decide ((↑j : Int) <= (256 : Int))) ((((True /\ True) /\ (True /\ (True /\ True)))) /\ (br (hLenI (↑j : Int) == (4 : Int)) (br (decide (List.length (syZ 4 j) + 1 <=
  16777216)) (br (decide (0 + List.length (syZ 4 j) * 1 <= List.length (nC (syZ 4 j)))) ((Eq (α := Option Value) (some (Value.int IntKind.i64 (↑(usZ 4 j) : Int))) (some
  (Value.int IntKind.i64 (cellI (lsK 4 j (usZ 4 j : Nat) (List.length (syZ 4 j) + 1)) 35)))) /\ (∃ j2 : Nat, ((Inv j2) /\ ((m j2 < m j) /\ ((0 = 0) /\ ((0 = 0) /\ (((0 :
  Int) + (↑(usZ 4 j2) : Int) = IntKind.wrap IntKind.i64 ((0 : Int) + (↑(usZ 4 j) : Int) + (1 : Int))) /\ ((E0 4) /\ (((↑j2 : Int) = IntKind.wrap IntKind.i64 ((↑j : Int) + (1
  : Int))) /\ (E1 [0, 0, 0, 0, 0, 0, 0, 0, 0, 0, 0, 0, 0, 0, 0, 0, 0, 0, 0, 0, 0, 0, 0, 0, 0, 0, 0, 0, 0, 0, 0, 0, 0, 0, 0, 0, 0, 0, 0, 0, 0, 0, 0, 0, 0, 0, 0, 0, 0, 0, 0,
  0, 0, 0, 0, 0, 0, 0, 0, 0, 0, 0, 0, 0, 0, 0, 0, 0, 0, 0, 0, 0, 0, 0, 0, 0, 0, 0, 0, 0, 0, 0, 0, 0, 0, 0, 0, 0, 0, 0, 0, 0, 0, 0, 0, 0, 0, 0, 0, 0, 0, 0, 0, 0, 0, 0, 0, 0,
  0, 0, 0, 0, 0, 0, 0, 0, 0, 0, 0, 0, 0, 0, 0, 0, 0, 0, 0, 0] (((↑(usZ 4 j2) : Int) = IntKind.wrap IntKind.i64 (cellI (lsK 4 j (usZ 4 j : Nat) (List.length (syZ 4 j) + 1))
  35 + (1 : Int))) /\ (E1 [0, 0, 0, 0, 0, 0, 0, 0, 0, 0, 0, 0, 0, 0, 0, 0, 0, 0, 0, 0, 0, 0, 0, 0, 0, 0, 0, 0, 0, 0, 0, 0, 0, 0, 0, 0, 0, 0, 0, 0, 0, 0, 0, 0, 0, 0, 0, 0, 0,
  0, 0, 0, 0, 0, 0, 0, 0] ((0 = 0) /\ ((List.length (syZ 4 j2) = List.length (syZ 4 j) + 1) /\ ((Eq (α := List Value) (nC (syZ 4 j2)) (List.take (List.length (syZ 4 j) * 1)
  (List.drop 0 (nC (syZ 4 j))) ++ [Value.int IntKind.i64 (↑j : Int)])) /\ ((Plain (nC (syZ 4 j2))) /\ True)))))))))))))))) False) False) (∃ j2 : Nat, ((Inv j2) /\ ((m j2 < m
  j) /\ ((0 = 0) /\ ((0 = 0) /\ (((0 : Int) + (↑(usZ 4 j2) : Int) = (0 : Int) + (↑(usZ 4 j) : Int)) /\ ((E0 4) /\ (((↑j2 : Int) = IntKind.wrap IntKind.i64 ((↑j : Int) + (1 :
  Int))) /\ (E1 [0, 0, 0, 0, 0, 0, 0, 0, 0, 0, 0, 0, 0, 0, 0, 0, 0, 0, 0, 0, 0, 0, 0, 0, 0, 0, 0, 0, 0, 0, 0, 0, 0, 0, 0, 0, 0, 0, 0, 0, 0, 0, 0, 0, 0, 0, 0, 0, 0, 0, 0, 0,
  0, 0, 0, 0, 0, 0, 0, 0, 0, 0, 0, 0, 0, 0, 0, 0, 0, 0, 0, 0, 0, 0, 0, 0, 0, 0, 0, 0, 0, 0, 0, 0, 0, 0, 0, 0, 0, 0, 0, 0, 0, 0, 0, 0, 0, 0, 0, 0, 0, 0, 0, 0, 0, 0, 0, 0, 0,
  0, 0, 0, 0, 0, 0, 0, 0, 0, 0, 0, 0, 0, 0, 0, 0, 0, 0, 0] (((↑(usZ 4 j2) : Int) = (↑(usZ 4 j) : Int)) /\ (E1 [0, 0, 0, 0, 0, 0, 0, 0, 0, 0, 0, 0, 0, 0, 0, 0, 0, 0, 0, 0, 0,
  0, 0, 0, 0, 0, 0, 0, 0, 0, 0, 0, 0, 0, 0, 0, 0, 0, 0, 0, 0, 0, 0, 0, 0, 0, 0, 0, 0, 0, 0, 0, 0, 0, 0, 0, 0] ((0 = 0) /\ ((List.length (syZ 4 j2) = List.length (syZ 4 j))
  /\ ((Eq (α := List Value) (nC (syZ 4 j2)) (nC (syZ 4 j))) /\ ((Plain (nC (syZ 4 j2))) /\ True))))))))))))))))) (∃ y : Unit, ((True) /\ ((0 = 0) /\ ((0 = 0) /\ (((0 : Int)
  = (0 : Int) + (↑(usZ 4 j) : Int)) /\ (E1 [4, 0, 0, 0, 0, 0, 0, 0, 0, 0, 0, 0, 0, 0, 0, 0, 0, 0, 0, 0, 0, 0, 0, 0, 0, 0, 0, 0, 0, 0, 0, 0, 0, 0, 0, 0, 0, 0, 0, 0, 0, 0, 0,
  0, 0, 0, 0, 0, 0, 0, 0, 0, 0, 0, 0, 0, 0, 0, 0, 0, 0, 0, 0, 0, 0, 0, 0, 0, 0, 0, 0, 0, 0, 0, 0, 0, 0, 0, 0, 0, 0, 0, 0, 0, 0, 0, 0, 0, 0, 0, 0, 0, 0, 0, 0, 0, 0, 0, 0, 0,
  0, 0, 0, 0, 0, 0, 0, 0, 0, 0, 0, 0, 0, 0, 0, 0, 0, 0, 0, 0, 0, 0, 0, 0, 0, 0, 0, 0, 0] (((0 : Int) = (↑(usZ 4 j) : Int)) /\ (E1 [0, 0, 0, 0, 0, 0, 0, 0, 0, 0, 0, 0, 0, 0,
  0, 0, 0, 0, 0, 0, 0, 0, 0, 0, 0, 0, 0, 0, 0, 0, 0, 0, 0, 0, 0, 0, 0, 0, 0, 0, 0, 0, 0, 0, 0, 0, 0, 0, 0, 0, 0, 0, 0, 0, 0, 0, 0] ((0 = 0) /\ ((0 = List.length (syZ 4 j))
  /\ ((Eq (α := List Value) (nC (syZ (4 + 1) 0)) (nC (syZ 4 j))) /\ ((Plain (nC (syZ (4 + 1) 0))) /\ True))))))))))))) := by kernel_rfl
theorem M5_round (j : Nat) (Inv : Nat → Prop) (m : Nat → Nat) : mev EtM noM 60 27 (0 :: pMi) false (codeOf Try.prog 27 (0 :: pMi)) ⟨mkOv (slM 5 j), 45, []⟩ none ⟨mkR (rlM 5 j), 3⟩ (roundK 0 3 45 Inv m (slM 5) (rlM 5) (wsM 5) j) =
  (br (decide ((↑j : Int) <= (256 : Int))) ((((True /\ True) /\ (True /\ (True /\ True)))) /\ (br (hLenI (↑j : Int) == (5 : Int)) (br (decide (List.length (syZ 5 j) + 1 <=
  16777216)) (br (decide (0 + List.length (syZ 5 j) * 1 <= List.length (nC (syZ 5 j)))) ((Eq (α := Option Value) (some (Value.int IntKind.i64 (↑(usZ 5 j) : Int))) (some
  (Value.int IntKind.i64 (cellI (lsK 5 j (usZ 5 j : Nat) (List.length (syZ 5 j) + 1)) 36)))) /\ (∃ j2 : Nat, ((Inv j2) /\ ((m j2 < m j) /\ ((0 = 0) /\ ((0 = 0) /\ (((0 :
  Int) + (↑(usZ 5 j2) : Int) = IntKind.wrap IntKind.i64 ((0 : Int) + (↑(usZ 5 j) : Int) + (1 : Int))) /\ ((E0 5) /\ (((↑j2 : Int) = IntKind.wrap IntKind.i64 ((↑j : Int) + (1
  : Int))) /\ (E1 [0, 0, 0, 0, 0, 0, 0, 0, 0, 0, 0, 0, 0, 0, 0, 0, 0, 0, 0, 0, 0, 0, 0, 0, 0, 0, 0, 0, 0, 0, 0, 0, 0, 0, 0, 0, 0, 0, 0, 0, 0, 0, 0, 0, 0, 0, 0, 0, 0, 0, 0,
  0, 0, 0, 0, 0, 0, 0, 0, 0, 0, 0, 0, 0, 0, 0, 0, 0, 0, 0, 0, 0, 0, 0, 0, 0, 0, 0, 0, 0, 0, 0, 0, 0, 0, 0, 0, 0, 0, 0, 0, 0, 0, 0, 0, 0, 0, 0, 0, 0, 0, 0, 0, 0, 0, 0, 0, 0,
  0, 0, 0, 0, 0, 0, 0, 0, 0, 0, 0, 0, 0, 0, 0, 0, 0, 0, 0, 0, 0] (((↑(usZ 5 j2) : Int) = IntKind.wrap IntKind.i64 (cellI (lsK 5 j (usZ 5 j : Nat) (List.length (syZ 5 j) +
  1)) 36 + (1 : Int))) /\ (E1 [0, 0, 0, 0, 0, 0, 0, 0, 0, 0, 0, 0, 0, 0, 0, 0, 0, 0, 0, 0, 0, 0, 0, 0, 0, 0, 0, 0, 0, 0, 0, 0, 0, 0, 0, 0, 0, 0, 0, 0, 0, 0, 0, 0, 0, 0, 0,
  0, 0, 0, 0, 0, 0, 0, 0, 0] ((0 = 0) /\ ((List.length (syZ 5 j2) = List.length (syZ 5 j) + 1) /\ ((Eq (α := List Value) (nC (syZ 5 j2)) (List.take (List.length (syZ 5 j) *
  1) (List.drop 0 (nC (syZ 5 j))) ++ [Value.int IntKind.i64 (↑j : Int)])) /\ ((Plain (nC (syZ 5 j2))) /\ True)))))))))))))))) False) False) (∃ j2 : Nat, ((Inv j2) /\ ((m j2
  < m j) /\ ((0 = 0) /\ ((0 = 0) /\ (((0 : Int) + (↑(usZ 5 j2) : Int) = (0 : Int) + (↑(usZ 5 j) : Int)) /\ ((E0 5) /\ (((↑j2 : Int) = IntKind.wrap IntKind.i64 ((↑j : Int) +
  (1 : Int))) /\ (E1 [0, 0, 0, 0, 0, 0, 0, 0, 0, 0, 0, 0, 0, 0, 0, 0, 0, 0, 0, 0, 0, 0, 0, 0, 0, 0, 0, 0, 0, 0, 0, 0, 0, 0, 0, 0, 0, 0, 0, 0, 0, 0, 0, 0, 0, 0, 0, 0, 0, 0,
  0, 0, 0, 0, 0, 0, 0, 0, 0, 0, 0, 0, 0, 0, 0, 0, 0, 0, 0, 0, 0, 0, 0, 0, 0, 0, 0, 0, 0, 0, 0, 0, 0, 0, 0, 0, 0, 0, 0, 0, 0, 0, 0, 0, 0, 0, 0, 0, 0, 0, 0, 0, 0, 0, 0, 0, 0,
  0, 0, 0, 0, 0, 0, 0, 0, 0, 0, 0, 0, 0, 0, 0, 0, 0, 0, 0, 0, 0, 0] (((↑(usZ 5 j2) : Int) = (↑(usZ 5 j) : Int)) /\ (E1 [0, 0, 0, 0, 0, 0, 0, 0, 0, 0, 0, 0, 0, 0, 0, 0, 0, 0,
  0, 0, 0, 0, 0, 0, 0, 0, 0, 0, 0, 0, 0, 0, 0, 0, 0, 0, 0, 0, 0, 0, 0, 0, 0, 0, 0, 0, 0, 0, 0, 0, 0, 0, 0, 0, 0, 0] ((0 = 0) /\ ((List.length (syZ 5 j2) = List.length (syZ 5
  j)) /\ ((Eq (α := List Value) (nC (syZ 5 j2)) (nC (syZ 5 j))) /\ ((Plain (nC (syZ 5 j2))) /\ True))))))))))))))))) (∃ y : Unit, ((True) /\ ((0 = 0) /\ ((0 = 0) /\ (((10 :
  Int) = (0 : Int) + (↑(usZ 5 j) : Int)) /\ (E1 [5, 0, 0, 0, 0, 0, 0, 0, 0, 0, 0, 0, 0, 0, 0, 0, 0, 0, 0, 0, 0, 0, 0, 0, 0, 0, 0, 0, 0, 0, 0, 0, 0, 0, 0, 0, 0, 0, 0, 0, 0,
  0, 0, 0, 0, 0, 0, 0, 0, 0, 0, 0, 0, 0, 0, 0, 0, 0, 0, 0, 0, 0, 0, 0, 0, 0, 0, 0, 0, 0, 0, 0, 0, 0, 0, 0, 0, 0, 0, 0, 0, 0, 0, 0, 0, 0, 0, 0, 0, 0, 0, 0, 0, 0, 0, 0, 0, 0,
  0, 0, 0, 0, 0, 0, 0, 0, 0, 0, 0, 0, 0, 0, 0, 0, 0, 0, 0, 0, 0, 0, 0, 0, 0, 0, 0, 0, 0, 0, 0, 0] (((10 : Int) = (↑(usZ 5 j) : Int)) /\ (E1 [0, 0, 0, 0, 0, 0, 0, 0, 0, 0, 0,
  0, 0, 0, 0, 0, 0, 0, 0, 0, 0, 0, 0, 0, 0, 0, 0, 0, 0, 0, 0, 0, 0, 0, 0, 0, 0, 0, 0, 0, 0, 0, 0, 0, 0, 0, 0, 0, 0, 0, 0, 0, 0, 0, 0, 0] ((0 = 0) /\ ((10 = List.length (syZ
  5 j)) /\ ((Eq (α := List Value) (nC (syZ (5 + 1) 0)) (nC (syZ 5 j))) /\ ((Plain (nC (syZ (5 + 1) 0))) /\ True))))))))))))) := by kernel_rfl
theorem M6_round (j : Nat) (Inv : Nat → Prop) (m : Nat → Nat) : mev EtM noM 60 27 (0 :: pMi) false (codeOf Try.prog 27 (0 :: pMi)) ⟨mkOv (slM 6 j), 45, []⟩ none ⟨mkR (rlM 6 j), 3⟩ (roundK 0 3 45 Inv m (slM 6) (rlM 6) (wsM 6) j) =
  (br (decide ((↑j : Int) <= (256 : Int))) ((((True /\ True) /\ (True /\ (True /\ True)))) /\ (br (hLenI (↑j : Int) == (6 : Int)) (br (decide (List.length (syZ 6 j) + 1 <=
  16777216)) (br (decide (0 + List.length (syZ 6 j) * 1 <= List.length (nC (syZ 6 j)))) ((Eq (α := Option Value) (some (Value.int IntKind.i64 (↑(usZ 6 j) : Int))) (some
  (Value.int IntKind.i64 (cellI (lsK 6 j (usZ 6 j : Nat) (List.length (syZ 6 j) + 1)) 37)))) /\ (∃ j2 : Nat, ((Inv j2) /\ ((m j2 < m j) /\ ((0 = 0) /\ ((0 = 0) /\ (((20 :
  Int) + (↑(usZ 6 j2) : Int) = IntKind.wrap IntKind.i64 ((20 : Int) + (↑(usZ 6 j) : Int) + (1 : Int))) /\ ((E0 6) /\ (((↑j2 : Int) = IntKind.wrap IntKind.i64 ((↑j : Int) +
  (1 : Int))) /\ (E1 [0, 0, 0, 0, 0, 0, 0, 0, 0, 0, 0, 0, 0, 0, 0, 0, 0, 0, 0, 0, 0, 0, 0, 0, 0, 0, 0, 0, 0, 0, 0, 0, 0, 0, 0, 0, 0, 0, 0, 0, 0, 0, 0, 0, 0, 0, 0, 0, 0, 0,
  0, 0, 0, 0, 0, 0, 0, 0, 0, 0, 0, 0, 0, 0, 0, 0, 0, 0, 0, 0, 0, 0, 0, 0, 0, 0, 0, 0, 0, 0, 0, 0, 0, 0, 0, 0, 0, 0, 0, 0, 0, 0, 0, 0, 0, 0, 0, 0, 0, 20, 0, 0, 0, 0, 0, 0, 0,
  0, 0, 0, 0, 0, 0, 0, 0, 0, 0, 0, 0, 0, 0, 0, 0, 0, 0, 0, 0, 0, 0, 10] (((↑(usZ 6 j2) : Int) = IntKind.wrap IntKind.i64 (cellI (lsK 6 j (usZ 6 j : Nat) (List.length (syZ 6
  j) + 1)) 37 + (1 : Int))) /\ (E1 [0, 0, 0, 0, 0, 0, 0, 0, 0, 0, 0, 0, 0, 0, 0, 0, 0, 0, 0, 0, 0, 0, 0, 0, 0, 0, 0, 0, 0, 0, 10, 0, 0, 0, 0, 0, 0, 0, 0, 0, 0, 0, 0, 0, 0,
  0, 0, 0, 0, 0, 0, 0, 0, 0, 0] ((0 = 0) /\ ((List.length (syZ 6 j2) = List.length (syZ 6 j) + 1) /\ ((Eq (α := List Value) (nC (syZ 6 j2)) (List.take (List.length (syZ 6 j)
  * 1) (List.drop 0 (nC (syZ 6 j))) ++ [Value.int IntKind.i64 (↑j : Int)])) /\ ((Plain (nC (syZ 6 j2))) /\ True)))))))))))))))) False) False) (∃ j2 : Nat, ((Inv j2) /\ ((m
  j2 < m j) /\ ((0 = 0) /\ ((0 = 0) /\ (((20 : Int) + (↑(usZ 6 j2) : Int) = (20 : Int) + (↑(usZ 6 j) : Int)) /\ ((E0 6) /\ (((↑j2 : Int) = IntKind.wrap IntKind.i64 ((↑j :
  Int) + (1 : Int))) /\ (E1 [0, 0, 0, 0, 0, 0, 0, 0, 0, 0, 0, 0, 0, 0, 0, 0, 0, 0, 0, 0, 0, 0, 0, 0, 0, 0, 0, 0, 0, 0, 0, 0, 0, 0, 0, 0, 0, 0, 0, 0, 0, 0, 0, 0, 0, 0, 0, 0,
  0, 0, 0, 0, 0, 0, 0, 0, 0, 0, 0, 0, 0, 0, 0, 0, 0, 0, 0, 0, 0, 0, 0, 0, 0, 0, 0, 0, 0, 0, 0, 0, 0, 0, 0, 0, 0, 0, 0, 0, 0, 0, 0, 0, 0, 0, 0, 0, 0, 0, 0, 20, 0, 0, 0, 0, 0,
  0, 0, 0, 0, 0, 0, 0, 0, 0, 0, 0, 0, 0, 0, 0, 0, 0, 0, 0, 0, 0, 0, 0, 0, 10] (((↑(usZ 6 j2) : Int) = (↑(usZ 6 j) : Int)) /\ (E1 [0, 0, 0, 0, 0, 0, 0, 0, 0, 0, 0, 0, 0, 0,
  0, 0, 0, 0, 0, 0, 0, 0, 0, 0, 0, 0, 0, 0, 0, 0, 10, 0, 0, 0, 0, 0, 0, 0, 0, 0, 0, 0, 0, 0, 0, 0, 0, 0, 0, 0, 0, 0, 0, 0, 0] ((0 = 0) /\ ((List.length (syZ 6 j2) =
  List.length (syZ 6 j)) /\ ((Eq (α := List Value) (nC (syZ 6 j2)) (nC (syZ 6 j))) /\ ((Plain (nC (syZ 6 j2))) /\ True))))))))))))))))) (∃ y : Unit, ((True) /\ ((0 = 0) /\
  ((0 = 0) /\ (((46 : Int) = (20 : Int) + (↑(usZ 6 j) : Int)) /\ (E1 [6, 0, 0, 0, 0, 0, 0, 0, 0, 0, 0, 0, 0, 0, 0, 0, 0, 0, 0, 0, 0, 0, 0, 0, 0, 0, 0, 0, 0, 0, 0, 0, 0, 0,
  0, 0, 0, 0, 0, 0, 0, 0, 0, 0, 0, 0, 0, 0, 0, 0, 0, 0, 0, 0, 0, 0, 0, 0, 0, 0, 0, 0, 0, 0, 0, 0, 0, 0, 0, 0, 0, 0, 0, 0, 0, 0, 0, 0, 0, 0, 0, 0, 0, 0, 0, 0, 0, 0, 0, 0, 0,
  0, 0, 0, 0, 0, 0, 0, 0, 0, 20, 0, 0, 0, 0, 0, 0, 0, 0, 0, 0, 0, 0, 0, 0, 0, 0, 0, 0, 0, 0, 0, 0, 0, 0, 0, 0, 0, 0, 0, 10] (((26 : Int) = (↑(usZ 6 j) : Int)) /\ (E1 [0, 0,
  0, 0, 0, 0, 0, 0, 0, 0, 0, 0, 0, 0, 0, 0, 0, 0, 0, 0, 0, 0, 0, 0, 0, 0, 0, 0, 0, 0, 10, 0, 0, 0, 0, 0, 0, 0, 0, 0, 0, 0, 0, 0, 0, 0, 0, 0, 0, 0, 0, 0, 0, 0, 0] ((0 = 0) /\
  ((36 = List.length (syZ 6 j)) /\ ((Eq (α := List Value) (nC (syZ (6 + 1) 0)) (nC (syZ 6 j))) /\ ((Plain (nC (syZ (6 + 1) 0))) /\ True))))))))))))) := by kernel_rfl
theorem M7_round (j : Nat) (Inv : Nat → Prop) (m : Nat → Nat) : mev EtM noM 60 27 (0 :: pMi) false (codeOf Try.prog 27 (0 :: pMi)) ⟨mkOv (slM 7 j), 45, []⟩ none ⟨mkR (rlM 7 j), 3⟩ (roundK 0 3 45 Inv m (slM 7) (rlM 7) (wsM 7) j) =
  (br (decide ((↑j : Int) <= (256 : Int))) ((((True /\ True) /\ (True /\ (True /\ True)))) /\ (br (hLenI (↑j : Int) == (7 : Int)) (br (decide (List.length (syZ 7 j) + 1 <=
  16777216)) (br (decide (0 + List.length (syZ 7 j) * 1 <= List.length (nC (syZ 7 j)))) ((Eq (α := Option Value) (some (Value.int IntKind.i64 (↑(usZ 7 j) : Int))) (some
  (Value.int IntKind.i64 (cellI (lsK 7 j (usZ 7 j : Nat) (List.length (syZ 7 j) + 1)) 38)))) /\ (∃ j2 : Nat, ((Inv j2) /\ ((m j2 < m j) /\ ((0 = 0) /\ ((0 = 0) /\ (((92 :
  Int) + (↑(usZ 7 j2) : Int) = IntKind.wrap IntKind.i64 ((92 : Int) + (↑(usZ 7 j) : Int) + (1 : Int))) /\ ((E0 7) /\ (((↑j2 : Int) = IntKind.wrap IntKind.i64 ((↑j : Int) +
  (1 : Int))) /\ (E1 [0, 0, 0, 0, 0, 0, 0, 0, 0, 0, 0, 0, 0, 0, 0, 0, 0, 0, 0, 0, 0, 0, 0, 0, 0, 0, 0, 0, 0, 0, 0, 0, 0, 0, 0, 0, 0, 0, 0, 0, 0, 0, 0, 0, 0, 0, 0, 0, 0, 0,
  0, 0, 0, 0, 0, 0, 0, 0, 0, 0, 0, 0, 0, 0, 0, 0, 0, 0, 0, 0, 0, 0, 0, 0, 0, 0, 0, 0, 0, 0, 0, 0, 0, 0, 0, 0, 0, 0, 0, 0, 0, 0, 0, 0, 0, 0, 0, 0, 0, 20, 92, 0, 0, 0, 0, 0,
  0, 0, 0, 0, 0, 0, 0, 0, 0, 0, 0, 0, 0, 0, 0, 0, 0, 0, 0, 0, 0, 0, 0, 10, 26] (((↑(usZ 7 j2) : Int) = IntKind.wrap IntKind.i64 (cellI (lsK 7 j (usZ 7 j : Nat) (List.length
  (syZ 7 j) + 1)) 38 + (1 : Int))) /\ (E1 [0, 0, 0, 0, 0, 0, 0, 0, 0, 0, 0, 0, 0, 0, 0, 0, 0, 0, 0, 0, 0, 0, 0, 0, 0, 0, 0, 0, 0, 10, 36, 0, 0, 0, 0, 0, 0, 0, 0, 0, 0, 0, 0,
  0, 0, 0, 0, 0, 0, 0, 0, 0, 0, 0] ((0 = 0) /\ ((List.length (syZ 7 j2) = List.length (syZ 7 j) + 1) /\ ((Eq (α := List Value) (nC (syZ 7 j2)) (List.take (List.length (syZ 7
  j) * 1) (List.drop 0 (nC (syZ 7 j))) ++ [Value.int IntKind.i64 (↑j : Int)])) /\ ((Plain (nC (syZ 7 j2))) /\ True)))))))))))))))) False) False) (∃ j2 : Nat, ((Inv j2) /\
  ((m j2 < m j) /\ ((0 = 0) /\ ((0 = 0) /\ (((92 : Int) + (↑(usZ 7 j2) : Int) = (92 : Int) + (↑(usZ 7 j) : Int)) /\ ((E0 7) /\ (((↑j2 : Int) = IntKind.wrap IntKind.i64 ((↑j
  : Int) + (1 : Int))) /\ (E1 [0, 0, 0, 0, 0, 0, 0, 0, 0, 0, 0, 0, 0, 0, 0, 0, 0, 0, 0, 0, 0, 0, 0, 0, 0, 0, 0, 0, 0, 0, 0, 0, 0, 0, 0, 0, 0, 0, 0, 0, 0, 0, 0, 0, 0, 0, 0,
  0, 0, 0, 0, 0, 0, 0, 0, 0, 0, 0, 0, 0, 0, 0, 0, 0, 0, 0, 0, 0, 0, 0, 0, 0, 0, 0, 0, 0, 0, 0, 0, 0, 0, 0, 0, 0, 0, 0, 0, 0, 0, 0, 0, 0, 0, 0, 0, 0, 0, 0, 0, 20, 92, 0, 0,
  0, 0, 0, 0, 0, 0, 0, 0, 0, 0, 0, 0, 0, 0, 0, 0, 0, 0, 0, 0, 0, 0, 0, 0, 0, 0, 10, 26] (((↑(usZ 7 j2) : Int) = (↑(usZ 7 j) : Int)) /\ (E1 [0, 0, 0, 0, 0, 0, 0, 0, 0, 0, 0,
  0, 0, 0, 0, 0, 0, 0, 0, 0, 0, 0, 0, 0, 0, 0, 0, 0, 0, 10, 36, 0, 0, 0, 0, 0, 0, 0, 0, 0, 0, 0, 0, 0, 0, 0, 0, 0, 0, 0, 0, 0, 0, 0] ((0 = 0) /\ ((List.length (syZ 7 j2) =
  List.length (syZ 7 j)) /\ ((Eq (α := List Value) (nC (syZ 7 j2)) (nC (syZ 7 j))) /\ ((Plain (nC (syZ 7 j2))) /\ True))))))))))))))))) (∃ y : Unit, ((True) /\ ((0 = 0) /\
  ((0 = 0) /\ (((124 : Int) = (92 : Int) + (↑(usZ 7 j) : Int)) /\ (E1 [7, 0, 0, 0, 0, 0, 0, 0, 0, 0, 0, 0, 0, 0, 0, 0, 0, 0, 0, 0, 0, 0, 0, 0, 0, 0, 0, 0, 0, 0, 0, 0, 0, 0,
  0, 0, 0, 0, 0, 0, 0, 0, 0, 0, 0, 0, 0, 0, 0, 0, 0, 0, 0, 0, 0, 0, 0, 0, 0, 0, 0, 0, 0, 0, 0, 0, 0, 0, 0, 0, 0, 0, 0, 0, 0, 0, 0, 0, 0, 0, 0, 0, 0, 0, 0, 0, 0, 0, 0, 0, 0,
  0, 0, 0, 0, 0, 0, 0, 0, 0, 20, 92, 0, 0, 0, 0, 0, 0, 0, 0, 0, 0, 0, 0, 0, 0, 0, 0, 0, 0, 0, 0, 0, 0, 0, 0, 0, 0, 0, 0, 10, 26] (((32 : Int) = (↑(usZ 7 j) : Int)) /\ (E1
  [0, 0, 0, 0, 0, 0, 0, 0, 0, 0, 0, 0, 0, 0, 0, 0, 0, 0, 0, 0, 0, 0, 0, 0, 0, 0, 0, 0, 0, 10, 36, 0, 0, 0, 0, 0, 0, 0, 0, 0, 0, 0, 0, 0, 0, 0, 0, 0, 0, 0, 0, 0, 0, 0] ((0 =
  0) /\ ((68 = List.length (syZ 7 j)) /\ ((Eq (α := List Value) (nC (syZ (7 + 1) 0)) (nC (syZ 7 j))) /\ ((Plain (nC (syZ (7 + 1) 0))) /\ True))))))))))))) := by kernel_rfl
theorem M8_round (j : Nat) (Inv : Nat → Prop) (m : Nat → Nat) : mev EtM noM 60 27 (0 :: pMi) false (codeOf Try.prog 27 (0 :: pMi)) ⟨mkOv (slM 8 j), 45, []⟩ none ⟨mkR (rlM 8 j), 3⟩ (roundK 0 3 45 Inv m (slM 8) (rlM 8) (wsM 8) j) =
  (br (decide ((↑j : Int) <= (256 : Int))) ((((True /\ True) /\ (True /\ (True /\ True)))) /\ (br (hLenI (↑j : Int) == (8 : Int)) (br (decide (List.length (syZ 8 j) + 1 <=
  16777216)) (br (decide (0 + List.length (syZ 8 j) * 1 <= List.length (nC (syZ 8 j)))) ((Eq (α := Option Value) (some (Value.int IntKind.i64 (↑(usZ 8 j) : Int))) (some
  (Value.int IntKind.i64 (cellI (lsK 8 j (usZ 8 j : Nat) (List.length (syZ 8 j) + 1)) 39)))) /\ (∃ j2 : Nat, ((Inv j2) /\ ((m j2 < m j) /\ ((0 = 0) /\ ((0 = 0) /\ (((248 :
  Int) + (↑(usZ 8 j2) : Int) = IntKind.wrap IntKind.i64 ((248 : Int) + (↑(usZ 8 j) : Int) + (1 : Int))) /\ ((E0 8) /\ (((↑j2 : Int) = IntKind.wrap IntKind.i64 ((↑j : Int) +
  (1 : Int))) /\ (E1 [0, 0, 0, 0, 0, 0, 0, 0, 0, 0, 0, 0, 0, 0, 0, 0, 0, 0, 0, 0, 0, 0, 0, 0, 0, 0, 0, 0, 0, 0, 0, 0, 0, 0, 0, 0, 0, 0, 0, 0, 0, 0, 0, 0, 0, 0, 0, 0, 0, 0,
  0, 0, 0, 0, 0, 0, 0, 0, 0, 0, 0, 0, 0, 0, 0, 0, 0, 0, 0, 0, 0, 0, 0, 0, 0, 0, 0, 0, 0, 0, 0, 0, 0, 0, 0, 0, 0, 0, 0, 0, 0, 0, 0, 0, 0, 0, 0, 0, 0, 20, 92, 248, 0, 0, 0, 0,
  0, 0, 0, 0, 0, 0, 0, 0, 0, 0, 0, 0, 0, 0, 0, 0, 0, 0, 0, 0, 0, 0, 0, 10, 26, 32] (((↑(usZ 8 j2) : Int) = IntKind.wrap IntKind.i64 (cellI (lsK 8 j (usZ 8 j : Nat)
  (List.length (syZ 8 j) + 1)) 39 + (1 : Int))) /\ (E1 [0, 0, 0, 0, 0, 0, 0, 0, 0, 0, 0, 0, 0, 0, 0, 0, 0, 0, 0, 0, 0, 0, 0, 0, 0, 0, 0, 0, 10, 36, 68, 0, 0, 0, 0, 0, 0, 0,
  0, 0, 0, 0, 0, 0, 0, 0, 0, 0, 0, 0, 0, 0, 0] ((0 = 0) /\ ((List.length (syZ 8 j2) = List.length (syZ 8 j) + 1) /\ ((Eq (α := List Value) (nC (syZ 8 j2)) (List.take
  (List.length (syZ 8 j) * 1) (List.drop 0 (nC (syZ 8 j))) ++ [Value.int IntKind.i64 (↑j : Int)])) /\ ((Plain (nC (syZ 8 j2))) /\ True)))))))))))))))) False) False) (∃ j2 :
  Nat, ((Inv j2) /\ ((m j2 < m j) /\ ((0 = 0) /\ ((0 = 0) /\ (((248 : Int) + (↑(usZ 8 j2) : Int) = (248 : Int) + (↑(usZ 8 j) : Int)) /\ ((E0 8) /\ (((↑j2 : Int) =
  IntKind.wrap IntKind.i64 ((↑j : Int) + (1 : Int))) /\ (E1 [0, 0, 0, 0, 0, 0, 0, 0, 0, 0, 0, 0, 0, 0, 0, 0, 0, 0, 0, 0, 0, 0, 0, 0, 0, 0, 0, 0, 0, 0, 0, 0, 0, 0, 0, 0, 0,
  0, 0, 0, 0, 0, 0, 0, 0, 0, 0, 0, 0, 0, 0, 0, 0, 0, 0, 0, 0, 0, 0, 0, 0, 0, 0, 0, 0, 0, 0, 0, 0, 0, 0, 0, 0, 0, 0, 0, 0, 0, 0, 0, 0, 0, 0, 0, 0, 0, 0, 0, 0, 0, 0, 0, 0, 0,
  0, 0, 0, 0, 0, 20, 92, 248, 0, 0, 0, 0, 0, 0, 0, 0, 0, 0, 0, 0, 0, 0, 0, 0, 0, 0, 0, 0, 0, 0, 0, 0, 0, 0, 0, 10, 26, 32] (((↑(usZ 8 j2) : Int) = (↑(usZ 8 j) : Int)) /\ (E1
  [0, 0, 0, 0, 0, 0, 0, 0, 0, 0, 0, 0, 0, 0, 0, 0, 0, 0, 0, 0, 0, 0, 0, 0, 0, 0, 0, 0, 10, 36, 68, 0, 0, 0, 0, 0, 0, 0, 0, 0, 0, 0, 0, 0, 0, 0, 0, 0, 0, 0, 0, 0, 0] ((0 = 0)
  /\ ((List.length (syZ 8 j2) = List.length (syZ 8 j)) /\ ((Eq (α := List Value) (nC (syZ 8 j2)) (nC (syZ 8 j))) /\ ((Plain (nC (syZ 8 j2))) /\ True))))))))))))))))) (∃ y :
  Unit, ((True) /\ ((0 = 0) /\ ((0 = 0) /\ (((254 : Int) = (248 : Int) + (↑(usZ 8 j) : Int)) /\ (E1 [8, 0, 0, 0, 0, 0, 0, 0, 0, 0, 0, 0, 0, 0, 0, 0, 0, 0, 0, 0, 0, 0, 0, 0,
  0, 0, 0, 0, 0, 0, 0, 0, 0, 0, 0, 0, 0, 0, 0, 0, 0, 0, 0, 0, 0, 0, 0, 0, 0, 0, 0, 0, 0, 0, 0, 0, 0, 0, 0, 0, 0, 0, 0, 0, 0, 0, 0, 0, 0, 0, 0, 0, 0, 0, 0, 0, 0, 0, 0, 0, 0,
  0, 0, 0, 0, 0, 0, 0, 0, 0, 0, 0, 0, 0, 0, 0, 0, 0, 0, 0, 20, 92, 248, 0, 0, 0, 0, 0, 0, 0, 0, 0, 0, 0, 0, 0, 0, 0, 0, 0, 0, 0, 0, 0, 0, 0, 0, 0, 0, 0, 10, 26, 32] (((6 :
  Int) = (↑(usZ 8 j) : Int)) /\ (E1 [0, 0, 0, 0, 0, 0, 0, 0, 0, 0, 0, 0, 0, 0, 0, 0, 0, 0, 0, 0, 0, 0, 0, 0, 0, 0, 0, 0, 10, 36, 68, 0, 0, 0, 0, 0, 0, 0, 0, 0, 0, 0, 0, 0,
  0, 0, 0, 0, 0, 0, 0, 0, 0] ((0 = 0) /\ ((74 = List.length (syZ 8 j)) /\ ((Eq (α := List Value) (nC (syZ (8 + 1) 0)) (nC (syZ 8 j))) /\ ((Plain (nC (syZ (8 + 1) 0))) /\
  True))))))))))))) := by kernel_rfl
theorem M9_round (j : Nat) (Inv : Nat → Prop) (m : Nat → Nat) : mev EtM noM 60 27 (0 :: pMi) false (codeOf Try.prog 27 (0 :: pMi)) ⟨mkOv (slM 9 j), 45, []⟩ none ⟨mkR (rlM 9 j), 3⟩ (roundK 0 3 45 Inv m (slM 9) (rlM 9) (wsM 9) j) =
  (br (decide ((↑j : Int) <= (256 : Int))) ((((True /\ True) /\ (True /\ (True /\ True)))) /\ (br (hLenI (↑j : Int) == (9 : Int)) (br (decide (List.length (syZ 9 j) + 1 <=
  16777216)) (br (decide (0 + List.length (syZ 9 j) * 1 <= List.length (nC (syZ 9 j)))) ((Eq (α := Option Value) (some (Value.int IntKind.i64 (↑(usZ 9 j) : Int))) (some
  (Value.int IntKind.i64 (cellI (lsK 9 j (usZ 9 j : Nat) (List.length (syZ 9 j) + 1)) 40)))) /\ (∃ j2 : Nat, ((Inv j2) /\ ((m j2 < m j) /\ ((0 = 0) /\ ((0 = 0) /\ (((508 :
  Int) + (↑(usZ 9 j2) : Int) = IntKind.wrap IntKind.i64 ((508 : Int) + (↑(usZ 9 j) : Int) + (1 : Int))) /\ ((E0 9) /\ (((↑j2 : Int) = IntKind.wrap IntKind.i64 ((↑j : Int) +
  (1 : Int))) /\ (E1 [0, 0, 0, 0, 0, 0, 0, 0, 0, 0, 0, 0, 0, 0, 0, 0, 0, 0, 0, 0, 0, 0, 0, 0, 0, 0, 0, 0, 0, 0, 0, 0, 0, 0, 0, 0, 0, 0, 0, 0, 0, 0, 0, 0, 0, 0, 0, 0, 0, 0,
  0, 0, 0, 0, 0, 0, 0, 0, 0, 0, 0, 0, 0, 0, 0, 0, 0, 0, 0, 0, 0, 0, 0, 0, 0, 0, 0, 0, 0, 0, 0, 0, 0, 0, 0, 0, 0, 0, 0, 0, 0, 0, 0, 0, 0, 0, 0, 0, 0, 20, 92, 248, 508, 0, 0,
  0, 0, 0, 0, 0, 0, 0, 0, 0, 0, 0, 0, 0, 0, 0, 0, 0, 0, 0, 0, 0, 0, 0, 0, 10, 26, 32, 6] (((↑(usZ 9 j2) : Int) = IntKind.wrap IntKind.i64 (cellI (lsK 9 j (usZ 9 j : Nat)
  (List.length (syZ 9 j) + 1)) 40 + (1 : Int))) /\ (E1 [0, 0, 0, 0, 0, 0, 0, 0, 0, 0, 0, 0, 0, 0, 0, 0, 0, 0, 0, 0, 0, 0, 0, 0, 0, 0, 0, 10, 36, 68, 74, 0, 0, 0, 0, 0, 0, 0,
  0, 0, 0, 0, 0, 0, 0, 0, 0, 0, 0, 0, 0, 0] ((0 = 0) /\ ((List.length (syZ 9 j2) = List.length (syZ 9 j) + 1) /\ ((Eq (α := List Value) (nC (syZ 9 j2)) (List.take
  (List.length (syZ 9 j) * 1) (List.drop 0 (nC (syZ 9 j))) ++ [Value.int IntKind.i64 (↑j : Int)])) /\ ((Plain (nC (syZ 9 j2))) /\ True)))))))))))))))) False) False) (∃ j2 :
  Nat, ((Inv j2) /\ ((m j2 < m j) /\ ((0 = 0) /\ ((0 = 0) /\ (((508 : Int) + (↑(usZ 9 j2) : Int) = (508 : Int) + (↑(usZ 9 j) : Int)) /\ ((E0 9) /\ (((↑j2 : Int) =
  IntKind.wrap IntKind.i64 ((↑j : Int) + (1 : Int))) /\ (E1 [0, 0, 0, 0, 0, 0, 0, 0, 0, 0, 0, 0, 0, 0, 0, 0, 0, 0, 0, 0, 0, 0, 0, 0, 0, 0, 0, 0, 0, 0, 0, 0, 0, 0, 0, 0, 0,
  0, 0, 0, 0, 0, 0, 0, 0, 0, 0, 0, 0, 0, 0, 0, 0, 0, 0, 0, 0, 0, 0, 0, 0, 0, 0, 0, 0, 0, 0, 0, 0, 0, 0, 0, 0, 0, 0, 0, 0, 0, 0, 0, 0, 0, 0, 0, 0, 0, 0, 0, 0, 0, 0, 0, 0, 0,
  0, 0, 0, 0, 0, 20, 92, 248, 508, 0, 0, 0, 0, 0, 0, 0, 0, 0, 0, 0, 0, 0, 0, 0, 0, 0, 0, 0, 0, 0, 0, 0, 0, 0, 0, 10, 26, 32, 6] (((↑(usZ 9 j2) : Int) = (↑(usZ 9 j) : Int))
  /\ (E1 [0, 0, 0, 0, 0, 0, 0, 0, 0, 0, 0, 0, 0, 0, 0, 0, 0, 0, 0, 0, 0, 0, 0, 0, 0, 0, 0, 10, 36, 68, 74, 0, 0, 0, 0, 0, 0, 0, 0, 0, 0, 0, 0, 0, 0, 0, 0, 0, 0, 0, 0, 0] ((0
  = 0) /\ ((List.length (syZ 9 j2) = List.length (syZ 9 j)) /\ ((Eq (α := List Value) (nC (syZ 9 j2)) (nC (syZ 9 j))) /\ ((Plain (nC (syZ 9 j2))) /\ True))))))))))))))))) (∃
  y : Unit, ((True) /\ ((0 = 0) /\ ((0 = 0) /\ (((508 : Int) = (508 : Int) + (↑(usZ 9 j) : Int)) /\ (E1 [9, 0, 0, 0, 0, 0, 0, 0, 0, 0, 0, 0, 0, 0, 0, 0, 0, 0, 0, 0, 0, 0, 0,
  0, 0, 0, 0, 0, 0, 0, 0, 0, 0, 0, 0, 0, 0, 0, 0, 0, 0, 0, 0, 0, 0, 0, 0, 0, 0, 0, 0, 0, 0, 0, 0, 0, 0, 0, 0, 0, 0, 0, 0, 0, 0, 0, 0, 0, 0, 0, 0, 0, 0, 0, 0, 0, 0, 0, 0, 0,
  0, 0, 0, 0, 0, 0, 0, 0, 0, 0, 0, 0, 0, 0, 0, 0, 0, 0, 0, 0, 20, 92, 248, 508, 0, 0, 0, 0, 0, 0, 0, 0, 0, 0, 0, 0, 0, 0, 0, 0, 0, 0, 0, 0, 0, 0, 0, 0, 0, 0, 10, 26, 32, 6]
  (((0 : Int) = (↑(usZ 9 j) : Int)) /\ (E1 [0, 0, 0, 0, 0, 0, 0, 0, 0, 0, 0, 0, 0, 0, 0, 0, 0, 0, 0, 0, 0, 0, 0, 0, 0, 0, 0, 10, 36, 68, 74, 0, 0, 0, 0, 0, 0, 0, 0, 0, 0, 0,
  0, 0, 0, 0, 0, 0, 0, 0, 0, 0] ((0 = 0) /\ ((74 = List.length (syZ 9 j)) /\ ((Eq (α := List Value) (nC (syZ (9 + 1) 0)) (nC (syZ 9 j))) /\ ((Plain (nC (syZ (9 + 1) 0))) /\
  True))))))))))))) := by kernel_rfl
theorem M10_round (j : Nat) (Inv : Nat → Prop) (m : Nat → Nat) : mev EtM noM 60 27 (0 :: pMi) false (codeOf Try.prog 27 (0 :: pMi)) ⟨mkOv (slM 10 j), 45, []⟩ none ⟨mkR (rlM 10 j), 3⟩ (roundK 0 3 45 Inv m (slM 10) (rlM 10) (wsM 10) j) =
  (br (decide ((↑j : Int) <= (256 : Int))) ((((True /\ True) /\ (True /\ (True /\ True)))) /\ (br (hLenI (↑j : Int) == (10 : Int)) (br (decide (List.length (syZ 10 j) + 1 <=
  16777216)) (br (decide (0 + List.length (syZ 10 j) * 1 <= List.length (nC (syZ 10 j)))) ((Eq (α := Option Value) (some (Value.int IntKind.i64 (↑(usZ 10 j) : Int))) (some
  (Value.int IntKind.i64 (cellI (lsK 10 j (usZ 10 j : Nat) (List.length (syZ 10 j) + 1)) 41)))) /\ (∃ j2 : Nat, ((Inv j2) /\ ((m j2 < m j) /\ ((0 = 0) /\ ((0 = 0) /\ (((1016
  : Int) + (↑(usZ 10 j2) : Int) = IntKind.wrap IntKind.i64 ((1016 : Int) + (↑(usZ 10 j) : Int) + (1 : Int))) /\ ((E0 10) /\ (((↑j2 : Int) = IntKind.wrap IntKind.i64 ((↑j :
  Int) + (1 : Int))) /\ (E1 [0, 0, 0, 0, 0, 0, 0, 0, 0, 0, 0, 0, 0, 0, 0, 0, 0, 0, 0, 0, 0, 0, 0, 0, 0, 0, 0, 0, 0, 0, 0, 0, 0, 0, 0, 0, 0, 0, 0, 0, 0, 0, 0, 0, 0, 0, 0, 0,
  0, 0, 0, 0, 0, 0, 0, 0, 0, 0, 0, 0, 0, 0, 0, 0, 0, 0, 0, 0, 0, 0, 0, 0, 0, 0, 0, 0, 0, 0, 0, 0, 0, 0, 0, 0, 0, 0, 0, 0, 0, 0, 0, 0, 0, 0, 0, 0, 0, 0, 0, 20, 92, 248, 508,
  1016, 0, 0, 0, 0, 0, 0, 0, 0, 0, 0, 0, 0, 0, 0, 0, 0, 0, 0, 0, 0, 0, 0, 0, 0, 0, 10, 26, 32, 6, 0] (((↑(usZ 10 j2) : Int) = IntKind.wrap IntKind.i64 (cellI (lsK 10 j (usZ
  10 j : Nat) (List.length (syZ 10 j) + 1)) 41 + (1 : Int))) /\ (E1 [0, 0, 0, 0, 0, 0, 0, 0, 0, 0, 0, 0, 0, 0, 0, 0, 0, 0, 0, 0, 0, 0, 0, 0, 0, 0, 10, 36, 68, 74, 74, 0, 0,
  0, 0, 0, 0, 0, 0, 0, 0, 0, 0, 0, 0, 0, 0, 0, 0, 0, 0] ((0 = 0) /\ ((List.length (syZ 10 j2) = List.length (syZ 10 j) + 1) /\ ((Eq (α := List Value) (nC (syZ 10 j2))
  (List.take (List.length (syZ 10 j) * 1) (List.drop 0 (nC (syZ 10 j))) ++ [Value.int IntKind.i64 (↑j : Int)])) /\ ((Plain (nC (syZ 10 j2))) /\ True)))))))))))))))) False)
  False) (∃ j2 : Nat, ((Inv j2) /\ ((m j2 < m j) /\ ((0 = 0) /\ ((0 = 0) /\ (((1016 : Int) + (↑(usZ 10 j2) : Int) = (1016 : Int) + (↑(usZ 10 j) : Int)) /\ ((E0 10) /\ (((↑j2
  : Int) = IntKind.wrap IntKind.i64 ((↑j : Int) + (1 : Int))) /\ (E1 [0, 0, 0, 0, 0, 0, 0, 0, 0, 0, 0, 0, 0, 0, 0, 0, 0, 0, 0, 0, 0, 0, 0, 0, 0, 0, 0, 0, 0, 0, 0, 0, 0, 0,
  0, 0, 0, 0, 0, 0, 0, 0, 0, 0, 0, 0, 0, 0, 0, 0, 0, 0, 0, 0, 0, 0, 0, 0, 0, 0, 0, 0, 0, 0, 0, 0, 0, 0, 0, 0, 0, 0, 0, 0, 0, 0, 0, 0, 0, 0, 0, 0, 0, 0, 0, 0, 0, 0, 0, 0, 0,
  0, 0, 0, 0, 0, 0, 0, 0, 20, 92, 248, 508, 1016, 0, 0, 0, 0, 0, 0, 0, 0, 0, 0, 0, 0, 0, 0, 0, 0, 0, 0, 0, 0, 0, 0, 0, 0, 0, 10, 26, 32, 6, 0] (((↑(usZ 10 j2) : Int) =
  (↑(usZ 10 j) : Int)) /\ (E1 [0, 0, 0, 0, 0, 0, 0, 0, 0, 0, 0, 0, 0, 0, 0, 0, 0, 0, 0, 0, 0, 0, 0, 0, 0, 0, 10, 36, 68, 74, 74, 0, 0, 0, 0, 0, 0, 0, 0, 0, 0, 0, 0, 0, 0, 0,
  0, 0, 0, 0, 0] ((0 = 0) /\ ((List.length (syZ 10 j2) = List.length (syZ 10 j)) /\ ((Eq (α := List Value) (nC (syZ 10 j2)) (nC (syZ 10 j))) /\ ((Plain (nC (syZ 10 j2))) /\
  True))))))))))))))))) (∃ y : Unit, ((True) /\ ((0 = 0) /\ ((0 = 0) /\ (((1021 : Int) = (1016 : Int) + (↑(usZ 10 j) : Int)) /\ (E1 [10, 0, 0, 0, 0, 0, 0, 0, 0, 0, 0, 0, 0,
  0, 0, 0, 0, 0, 0, 0, 0, 0, 0, 0, 0, 0, 0, 0, 0, 0, 0, 0, 0, 0, 0, 0, 0, 0, 0, 0, 0, 0, 0, 0, 0, 0, 0, 0, 0, 0, 0, 0, 0, 0, 0, 0, 0, 0, 0, 0, 0, 0, 0, 0, 0, 0, 0, 0, 0, 0,
  0, 0, 0, 0, 0, 0, 0, 0, 0, 0, 0, 0, 0, 0, 0, 0, 0, 0, 0, 0, 0, 0, 0, 0, 0, 0, 0, 0, 0, 0, 20, 92, 248, 508, 1016, 0, 0, 0, 0, 0, 0, 0, 0, 0, 0, 0, 0, 0, 0, 0, 0, 0, 0, 0,
  0, 0, 0, 0, 0, 0, 10, 26, 32, 6, 0] (((5 : Int) = (↑(usZ 10 j) : Int)) /\ (E1 [0, 0, 0, 0, 0, 0, 0, 0, 0, 0, 0, 0, 0, 0, 0, 0, 0, 0, 0, 0, 0, 0, 0, 0, 0, 0, 10, 36, 68,
  74, 74, 0, 0, 0, 0, 0, 0, 0, 0, 0, 0, 0, 0, 0, 0, 0, 0, 0, 0, 0, 0] ((0 = 0) /\ ((79 = List.length (syZ 10 j)) /\ ((Eq (α := List Value) (nC (syZ (10 + 1) 0)) (nC (syZ 10
  j))) /\ ((Plain (nC (syZ (10 + 1) 0))) /\ True))))))))))))) := by kernel_rfl
theorem M11_round (j : Nat) (Inv : Nat → Prop) (m : Nat → Nat) : mev EtM noM 60 27 (0 :: pMi) false (codeOf Try.prog 27 (0 :: pMi)) ⟨mkOv (slM 11 j), 45, []⟩ none ⟨mkR (rlM 11 j), 3⟩ (roundK 0 3 45 Inv m (slM 11) (rlM 11) (wsM 11) j) =
  (br (decide ((↑j : Int) <= (256 : Int))) ((((True /\ True) /\ (True /\ (True /\ True)))) /\ (br (hLenI (↑j : Int) == (11 : Int)) (br (decide (List.length (syZ 11 j) + 1 <=
  16777216)) (br (decide (0 + List.length (syZ 11 j) * 1 <= List.length (nC (syZ 11 j)))) ((Eq (α := Option Value) (some (Value.int IntKind.i64 (↑(usZ 11 j) : Int))) (some
  (Value.int IntKind.i64 (cellI (lsK 11 j (usZ 11 j : Nat) (List.length (syZ 11 j) + 1)) 42)))) /\ (∃ j2 : Nat, ((Inv j2) /\ ((m j2 < m j) /\ ((0 = 0) /\ ((0 = 0) /\ (((2042
  : Int) + (↑(usZ 11 j2) : Int) = IntKind.wrap IntKind.i64 ((2042 : Int) + (↑(usZ 11 j) : Int) + (1 : Int))) /\ ((E0 11) /\ (((↑j2 : Int) = IntKind.wrap IntKind.i64 ((↑j :
  Int) + (1 : Int))) /\ (E1 [0, 0, 0, 0, 0, 0, 0, 0, 0, 0, 0, 0, 0, 0, 0, 0, 0, 0, 0, 0, 0, 0, 0, 0, 0, 0, 0, 0, 0, 0, 0, 0, 0, 0, 0, 0, 0, 0, 0, 0, 0, 0, 0, 0, 0, 0, 0, 0,
  0, 0, 0, 0, 0, 0, 0, 0, 0, 0, 0, 0, 0, 0, 0, 0, 0, 0, 0, 0, 0, 0, 0, 0, 0, 0, 0, 0, 0, 0, 0, 0, 0, 0, 0, 0, 0, 0, 0, 0, 0, 0, 0, 0, 0, 0, 0, 0, 0, 0, 0, 20, 92, 248, 508,
  1016, 2042, 0, 0, 0, 0, 0, 0, 0, 0, 0, 0, 0, 0, 0, 0, 0, 0, 0, 0, 0, 0, 0, 0, 0, 0, 10, 26, 32, 6, 0, 5] (((↑(usZ 11 j2) : Int) = IntKind.wrap IntKind.i64 (cellI (lsK 11 j
  (usZ 11 j : Nat) (List.length (syZ 11 j) + 1)) 42 + (1 : Int))) /\ (E1 [0, 0, 0, 0, 0, 0, 0, 0, 0, 0, 0, 0, 0, 0, 0, 0, 0, 0, 0, 0, 0, 0, 0, 0, 0, 10, 36, 68, 74, 74, 79,
  0, 0, 0, 0, 0, 0, 0, 0, 0, 0, 0, 0, 0, 0, 0, 0, 0, 0, 0] ((0 = 0) /\ ((List.length (syZ 11 j2) = List.length (syZ 11 j) + 1) /\ ((Eq (α := List Value) (nC (syZ 11 j2))
  (List.take (List.length (syZ 11 j) * 1) (List.drop 0 (nC (syZ 11 j))) ++ [Value.int IntKind.i64 (↑j : Int)])) /\ ((Plain (nC (syZ 11 j2))) /\ True)))))))))))))))) False)
  False) (∃ j2 : Nat, ((Inv j2) /\ ((m j2 < m j) /\ ((0 = 0) /\ ((0 = 0) /\ (((2042 : Int) + (↑(usZ 11 j2) : Int) = (2042 : Int) + (↑(usZ 11 j) : Int)) /\ ((E0 11) /\ (((↑j2
  : Int) = IntKind.wrap IntKind.i64 ((↑j : Int) + (1 : Int))) /\ (E1 [0, 0, 0, 0, 0, 0, 0, 0, 0, 0, 0, 0, 0, 0, 0, 0, 0, 0, 0, 0, 0, 0, 0, 0, 0, 0, 0, 0, 0, 0, 0, 0, 0, 0,
  0, 0, 0, 0, 0, 0, 0, 0, 0, 0, 0, 0, 0, 0, 0, 0, 0, 0, 0, 0, 0, 0, 0, 0, 0, 0, 0, 0, 0, 0, 0, 0, 0, 0, 0, 0, 0, 0, 0, 0, 0, 0, 0, 0, 0, 0, 0, 0, 0, 0, 0, 0, 0, 0, 0, 0, 0,
  0, 0, 0, 0, 0, 0, 0, 0, 20, 92, 248, 508, 1016, 2042, 0, 0, 0, 0, 0, 0, 0, 0, 0, 0, 0, 0, 0, 0, 0, 0, 0, 0, 0, 0, 0, 0, 0, 0, 10, 26, 32, 6, 0, 5] (((↑(usZ 11 j2) : Int) =
  (↑(usZ 11 j) : Int)) /\ (E1 [0, 0, 0, 0, 0, 0, 0, 0, 0, 0, 0, 0, 0, 0, 0, 0, 0, 0, 0, 0, 0, 0, 0, 0, 0, 10, 36, 68, 74, 74, 79, 0, 0, 0, 0, 0, 0, 0, 0, 0, 0, 0, 0, 0, 0,
  0, 0, 0, 0, 0] ((0 = 0) /\ ((List.length (syZ 11 j2) = List.length (syZ 11 j)) /\ ((Eq (α := List Value) (nC (syZ 11 j2)) (nC (syZ 11 j))) /\ ((Plain (nC (syZ 11 j2))) /\
  True))))))))))))))))) (∃ y : Unit, ((True) /\ ((0 = 0) /\ ((0 = 0) /\ (((2045 : Int) = (2042 : Int) + (↑(usZ 11 j) : Int)) /\ (E1 [11, 0, 0, 0, 0, 0, 0, 0, 0, 0, 0, 0, 0,
  0, 0, 0, 0, 0, 0, 0, 0, 0, 0, 0, 0, 0, 0, 0, 0, 0, 0, 0, 0, 0, 0, 0, 0, 0, 0, 0, 0, 0, 0, 0, 0, 0, 0, 0, 0, 0, 0, 0, 0, 0, 0, 0, 0, 0, 0, 0, 0, 0, 0, 0, 0, 0, 0, 0, 0, 0,
  0, 0, 0, 0, 0, 0, 0, 0, 0, 0, 0, 0, 0, 0, 0, 0, 0, 0, 0, 0, 0, 0, 0, 0, 0, 0, 0, 0, 0, 0, 20, 92, 248, 508, 1016, 2042, 0, 0, 0, 0, 0, 0, 0, 0, 0, 0, 0, 0, 0, 0, 0, 0, 0,
  0, 0, 0, 0, 0, 0, 0, 10, 26, 32, 6, 0, 5] (((3 : Int) = (↑(usZ 11 j) : Int)) /\ (E1 [0, 0, 0, 0, 0, 0, 0, 0, 0, 0, 0, 0, 0, 0, 0, 0, 0, 0, 0, 0, 0, 0, 0, 0, 0, 10, 36, 68,
  74, 74, 79, 0, 0, 0, 0, 0, 0, 0, 0, 0, 0, 0, 0, 0, 0, 0, 0, 0, 0, 0] ((0 = 0) /\ ((82 = List.length (syZ 11 j)) /\ ((Eq (α := List Value) (nC (syZ (11 + 1) 0)) (nC (syZ 11
  j))) /\ ((Plain (nC (syZ (11 + 1) 0))) /\ True))))))))))))) := by kernel_rfl
theorem M12_round (j : Nat) (Inv : Nat → Prop) (m : Nat → Nat) : mev EtM noM 60 27 (0 :: pMi) false (codeOf Try.prog 27 (0 :: pMi)) ⟨mkOv (slM 12 j), 45, []⟩ none ⟨mkR (rlM 12 j), 3⟩ (roundK 0 3 45 Inv m (slM 12) (rlM 12) (wsM 12) j) =
  (br (decide ((↑j : Int) <= (256 : Int))) ((((True /\ True) /\ (True /\ (True /\ True)))) /\ (br (hLenI (↑j : Int) == (12 : Int)) (br (decide (List.length (syZ 12 j) + 1 <=
  16777216)) (br (decide (0 + List.length (syZ 12 j) * 1 <= List.length (nC (syZ 12 j)))) ((Eq (α := Option Value) (some (Value.int IntKind.i64 (↑(usZ 12 j) : Int))) (some
  (Value.int IntKind.i64 (cellI (lsK 12 j (usZ 12 j : Nat) (List.length (syZ 12 j) + 1)) 43)))) /\ (∃ j2 : Nat, ((Inv j2) /\ ((m j2 < m j) /\ ((0 = 0) /\ ((0 = 0) /\ (((4090
  : Int) + (↑(usZ 12 j2) : Int) = IntKind.wrap IntKind.i64 ((4090 : Int) + (↑(usZ 12 j) : Int) + (1 : Int))) /\ ((E0 12) /\ (((↑j2 : Int) = IntKind.wrap IntKind.i64 ((↑j :
  Int) + (1 : Int))) /\ (E1 [0, 0, 0, 0, 0, 0, 0, 0, 0, 0, 0, 0, 0, 0, 0, 0, 0, 0, 0, 0, 0, 0, 0, 0, 0, 0, 0, 0, 0, 0, 0, 0, 0, 0, 0, 0, 0, 0, 0, 0, 0, 0, 0, 0, 0, 0, 0, 0,
  0, 0, 0, 0, 0, 0, 0, 0, 0, 0, 0, 0, 0, 0, 0, 0, 0, 0, 0, 0, 0, 0, 0, 0, 0, 0, 0, 0, 0, 0, 0, 0, 0, 0, 0, 0, 0, 0, 0, 0, 0, 0, 0, 0, 0, 0, 0, 0, 0, 0, 0, 20, 92, 248, 508,
  1016, 2042, 4090, 0, 0, 0, 0, 0, 0, 0, 0, 0, 0, 0, 0, 0, 0, 0, 0, 0, 0, 0, 0, 0, 0, 0, 10, 26, 32, 6, 0, 5, 3] (((↑(usZ 12 j2) : Int) = IntKind.wrap IntKind.i64 (cellI
  (lsK 12 j (usZ 12 j : Nat) (List.length (syZ 12 j) + 1)) 43 + (1 : Int))) /\ (E1 [0, 0, 0, 0, 0, 0, 0, 0, 0, 0, 0, 0, 0, 0, 0, 0, 0, 0, 0, 0, 0, 0, 0, 0, 10, 36, 68, 74,
  74, 79, 82, 0, 0, 0, 0, 0, 0, 0, 0, 0, 0, 0, 0, 0, 0, 0, 0, 0, 0] ((0 = 0) /\ ((List.length (syZ 12 j2) = List.length (syZ 12 j) + 1) /\ ((Eq (α := List Value) (nC (syZ 12
  j2)) (List.take (List.length (syZ 12 j) * 1) (List.drop 0 (nC (syZ 12 j))) ++ [Value.int IntKind.i64 (↑j : Int)])) /\ ((Plain (nC (syZ 12 j2))) /\ True))))))))))))))))
  False) False) (∃ j2 : Nat, ((Inv j2) /\ ((m j2 < m j) /\ ((0 = 0) /\ ((0 = 0) /\ (((4090 : Int) + (↑(usZ 12 j2) : Int) = (4090 : Int) + (↑(usZ 12 j) : Int)) /\ ((E0 12) /\
  (((↑j2 : Int) = IntKind.wrap IntKind.i64 ((↑j : Int) + (1 : Int))) /\ (E1 [0, 0, 0, 0, 0, 0, 0, 0, 0, 0, 0, 0, 0, 0, 0, 0, 0, 0, 0, 0, 0, 0, 0, 0, 0, 0, 0, 0, 0, 0, 0, 0,
  0, 0, 0, 0, 0, 0, 0, 0, 0, 0, 0, 0, 0, 0, 0, 0, 0, 0, 0, 0, 0, 0, 0, 0, 0, 0, 0, 0, 0, 0, 0, 0, 0, 0, 0, 0, 0, 0, 0, 0, 0, 0, 0, 0, 0, 0, 0, 0, 0, 0, 0, 0, 0, 0, 0, 0, 0,
  0, 0, 0, 0, 0, 0, 0, 0, 0, 0, 20, 92, 248, 508, 1016, 2042, 4090, 0, 0, 0, 0, 0, 0, 0, 0, 0, 0, 0, 0, 0, 0, 0, 0, 0, 0, 0, 0, 0, 0, 0, 10, 26, 32, 6, 0, 5, 3] (((↑(usZ 12
  j2) : Int) = (↑(usZ 12 j) : Int)) /\ (E1 [0, 0, 0, 0, 0, 0, 0, 0, 0, 0, 0, 0, 0, 0, 0, 0, 0, 0, 0, 0, 0, 0, 0, 0, 10, 36, 68, 74, 74, 79, 82, 0, 0, 0, 0, 0, 0, 0, 0, 0, 0,
  0, 0, 0, 0, 0, 0, 0, 0] ((0 = 0) /\ ((List.length (syZ 12 j2) = List.length (syZ 12 j)) /\ ((Eq (α := List Value) (nC (syZ 12 j2)) (nC (syZ 12 j))) /\ ((Plain (nC (syZ 12
  j2))) /\ True))))))))))))))))) (∃ y : Unit, ((True) /\ ((0 = 0) /\ ((0 = 0) /\ (((4092 : Int) = (4090 : Int) + (↑(usZ 12 j) : Int)) /\ (E1 [12, 0, 0, 0, 0, 0, 0, 0, 0, 0,
  0, 0, 0, 0, 0, 0, 0, 0, 0, 0, 0, 0, 0, 0, 0, 0, 0, 0, 0, 0, 0, 0, 0, 0, 0, 0, 0, 0, 0, 0, 0, 0, 0, 0, 0, 0, 0, 0, 0, 0, 0, 0, 0, 0, 0, 0, 0, 0, 0, 0, 0, 0, 0, 0, 0, 0, 0,
  0, 0, 0, 0, 0, 0, 0, 0, 0, 0, 0, 0, 0, 0, 0, 0, 0, 0, 0, 0, 0, 0, 0, 0, 0, 0, 0, 0, 0, 0, 0, 0, 0, 20, 92, 248, 508, 1016, 2042, 4090, 0, 0, 0, 0, 0, 0, 0, 0, 0, 0, 0, 0,
  0, 0, 0, 0, 0, 0, 0, 0, 0, 0, 0, 10, 26, 32, 6, 0, 5, 3] (((2 : Int) = (↑(usZ 12 j) : Int)) /\ (E1 [0, 0, 0, 0, 0, 0, 0, 0, 0, 0, 0, 0, 0, 0, 0, 0, 0, 0, 0, 0, 0, 0, 0, 0,
  10, 36, 68, 74, 74, 79, 82, 0, 0, 0, 0, 0, 0, 0, 0, 0, 0, 0, 0, 0, 0, 0, 0, 0, 0] ((0 = 0) /\ ((84 = List.length (syZ 12 j)) /\ ((Eq (α := List Value) (nC (syZ (12 + 1)
  0)) (nC (syZ 12 j))) /\ ((Plain (nC (syZ (12 + 1) 0))) /\ True))))))))))))) := by kernel_rfl
theorem M13_round (j : Nat) (Inv : Nat → Prop) (m : Nat → Nat) : mev EtM noM 60 27 (0 :: pMi) false (codeOf Try.prog 27 (0 :: pMi)) ⟨mkOv (slM 13 j), 45, []⟩ none ⟨mkR (rlM 13 j), 3⟩ (roundK 0 3 45 Inv m (slM 13) (rlM 13) (wsM 13) j) =
  (br (decide ((↑j : Int) <= (256 : Int))) ((((True /\ True) /\ (True /\ (True /\ True)))) /\ (br (hLenI (↑j : Int) == (13 : Int)) (br (decide (List.length (syZ 13 j) + 1 <=
  16777216)) (br (decide (0 + List.length (syZ 13 j) * 1 <= List.length (nC (syZ 13 j)))) ((Eq (α := Option Value) (some (Value.int IntKind.i64 (↑(usZ 13 j) : Int))) (some
  (Value.int IntKind.i64 (cellI (lsK 13 j (usZ 13 j : Nat) (List.length (syZ 13 j) + 1)) 44)))) /\ (∃ j2 : Nat, ((Inv j2) /\ ((m j2 < m j) /\ ((0 = 0) /\ ((0 = 0) /\ (((8184
  : Int) + (↑(usZ 13 j2) : Int) = IntKind.wrap IntKind.i64 ((8184 : Int) + (↑(usZ 13 j) : Int) + (1 : Int))) /\ ((E0 13) /\ (((↑j2 : Int) = IntKind.wrap IntKind.i64 ((↑j :
  Int) + (1 : Int))) /\ (E1 [0, 0, 0, 0, 0, 0, 0, 0, 0, 0, 0, 0, 0, 0, 0, 0, 0, 0, 0, 0, 0, 0, 0, 0, 0, 0, 0, 0, 0, 0, 0, 0, 0, 0, 0, 0, 0, 0, 0, 0, 0, 0, 0, 0, 0, 0, 0, 0,
  0, 0, 0, 0, 0, 0, 0, 0, 0, 0, 0, 0, 0, 0, 0, 0, 0, 0, 0, 0, 0, 0, 0, 0, 0, 0, 0, 0, 0, 0, 0, 0, 0, 0, 0, 0, 0, 0, 0, 0, 0, 0, 0, 0, 0, 0, 0, 0, 0, 0, 0, 20, 92, 248, 508,
  1016, 2042, 4090, 8184, 0, 0, 0, 0, 0, 0, 0, 0, 0, 0, 0, 0, 0, 0, 0, 0, 0, 0, 0, 0, 0, 0, 10, 26, 32, 6, 0, 5, 3, 2] (((↑(usZ 13 j2) : Int) = IntKind.wrap IntKind.i64
  (cellI (lsK 13 j (usZ 13 j : Nat) (List.length (syZ 13 j) + 1)) 44 + (1 : Int))) /\ (E1 [0, 0, 0, 0, 0, 0, 0, 0, 0, 0, 0, 0, 0, 0, 0, 0, 0, 0, 0, 0, 0, 0, 0, 10, 36, 68,
  74, 74, 79, 82, 84, 0, 0, 0, 0, 0, 0, 0, 0, 0, 0, 0, 0, 0, 0, 0, 0, 0] ((0 = 0) /\ ((List.length (syZ 13 j2) = List.length (syZ 13 j) + 1) /\ ((Eq (α := List Value) (nC
  (syZ 13 j2)) (List.take (List.length (syZ 13 j) * 1) (List.drop 0 (nC (syZ 13 j))) ++ [Value.int IntKind.i64 (↑j : Int)])) /\ ((Plain (nC (syZ 13 j2))) /\
  True)))))))))))))))) False) False) (∃ j2 : Nat, ((Inv j2) /\ ((m j2 < m j) /\ ((0 = 0) /\ ((0 = 0) /\ (((8184 : Int) + (↑(usZ 13 j2) : Int) = (8184 : Int) + (↑(usZ 13 j) :
  Int)) /\ ((E0 13) /\ (((↑j2 : Int) = IntKind.wrap IntKind.i64 ((↑j : Int) + (1 : Int))) /\ (E1 [0, 0, 0, 0, 0, 0, 0, 0, 0, 0, 0, 0, 0, 0, 0, 0, 0, 0, 0, 0, 0, 0, 0, 0, 0,
  0, 0, 0, 0, 0, 0, 0, 0, 0, 0, 0, 0, 0, 0, 0, 0, 0, 0, 0, 0, 0, 0, 0, 0, 0, 0, 0, 0, 0, 0, 0, 0, 0, 0, 0, 0, 0, 0, 0, 0, 0, 0, 0, 0, 0, 0, 0, 0, 0, 0, 0, 0, 0, 0, 0, 0, 0,
  0, 0, 0, 0, 0, 0, 0, 0, 0, 0, 0, 0, 0, 0, 0, 0, 0, 20, 92, 248, 508, 1016, 2042, 4090, 8184, 0, 0, 0, 0, 0, 0, 0, 0, 0, 0, 0, 0, 0, 0, 0, 0, 0, 0, 0, 0, 0, 0, 10, 26, 32,
  6, 0, 5, 3, 2] (((↑(usZ 13 j2) : Int) = (↑(usZ 13 j) : Int)) /\ (E1 [0, 0, 0, 0, 0, 0, 0, 0, 0, 0, 0, 0, 0, 0, 0, 0, 0, 0, 0, 0, 0, 0, 0, 10, 36, 68, 74, 74, 79, 82, 84,
  0, 0, 0, 0, 0, 0, 0, 0, 0, 0, 0, 0, 0, 0, 0, 0, 0] ((0 = 0) /\ ((List.length (syZ 13 j2) = List.length (syZ 13 j)) /\ ((Eq (α := List Value) (nC (syZ 13 j2)) (nC (syZ 13
  j))) /\ ((Plain (nC (syZ 13 j2))) /\ True))))))))))))))))) (∃ y : Unit, ((True) /\ ((0 = 0) /\ ((0 = 0) /\ (((8190 : Int) = (8184 : Int) + (↑(usZ 13 j) : Int)) /\ (E1 [13,
  0, 0, 0, 0, 0, 0, 0, 0, 0, 0, 0, 0, 0, 0, 0, 0, 0, 0, 0, 0, 0, 0, 0, 0, 0, 0, 0, 0, 0, 0, 0, 0, 0, 0, 0, 0, 0, 0, 0, 0, 0, 0, 0, 0, 0, 0, 0, 0, 0, 0, 0, 0, 0, 0, 0, 0, 0,
  0, 0, 0, 0, 0, 0, 0, 0, 0, 0, 0, 0, 0, 0, 0, 0, 0, 0, 0, 0, 0, 0, 0, 0, 0, 0, 0, 0, 0, 0, 0, 0, 0, 0, 0, 0, 0, 0, 0, 0, 0, 0, 20, 92, 248, 508, 1016, 2042, 4090, 8184, 0,
  0, 0, 0, 0, 0, 0, 0, 0, 0, 0, 0, 0, 0, 0, 0, 0, 0, 0, 0, 0, 0, 10, 26, 32, 6, 0, 5, 3, 2] (((6 : Int) = (↑(usZ 13 j) : Int)) /\ (E1 [0, 0, 0, 0, 0, 0, 0, 0, 0, 0, 0, 0, 0,
  0, 0, 0, 0, 0, 0, 0, 0, 0, 0, 10, 36, 68, 74, 74, 79, 82, 84, 0, 0, 0, 0, 0, 0, 0, 0, 0, 0, 0, 0, 0, 0, 0, 0, 0] ((0 = 0) /\ ((90 = List.length (syZ 13 j)) /\ ((Eq (α :=
  List Value) (nC (syZ (13 + 1) 0)) (nC (syZ 13 j))) /\ ((Plain (nC (syZ (13 + 1) 0))) /\ True))))))))))))) := by kernel_rfl
theorem M14_round (j : Nat) (Inv : Nat → Prop) (m : Nat → Nat) : mev EtM noM 60 27 (0 :: pMi) false (codeOf Try.prog 27 (0 :: pMi)) ⟨mkOv (slM 14 j), 45, []⟩ none ⟨mkR (rlM 14 j), 3⟩ (roundK 0 3 45 Inv m (slM 14) (rlM 14) (wsM 14) j) =
  (br (decide ((↑j : Int) <= (256 : Int))) ((((True /\ True) /\ (True /\ (True /\ True)))) /\ (br (hLenI (↑j : Int) == (14 : Int)) (br (decide (List.length (syZ 14 j) + 1 <=
  16777216)) (br (decide (0 + List.length (syZ 14 j) * 1 <= List.length (nC (syZ 14 j)))) ((Eq (α := Option Value) (some (Value.int IntKind.i64 (↑(usZ 14 j) : Int))) (some
  (Value.int IntKind.i64 (cellI (lsK 14 j (usZ 14 j : Nat) (List.length (syZ 14 j) + 1)) 45)))) /\ (∃ j2 : Nat, ((Inv j2) /\ ((m j2 < m j) /\ ((0 = 0) /\ ((0 = 0) /\
  (((16380 : Int) + (↑(usZ 14 j2) : Int) = IntKind.wrap IntKind.i64 ((16380 : Int) + (↑(usZ 14 j) : Int) + (1 : Int))) /\ ((E0 14) /\ (((↑j2 : Int) = IntKind.wrap
  IntKind.i64 ((↑j : Int) + (1 : Int))) /\ (E1 [0, 0, 0, 0, 0, 0, 0, 0, 0, 0, 0, 0, 0, 0, 0, 0, 0, 0, 0, 0, 0, 0, 0, 0, 0, 0, 0, 0, 0, 0, 0, 0, 0, 0, 0, 0, 0, 0, 0, 0, 0, 0,
  0, 0, 0, 0, 0, 0, 0, 0, 0, 0, 0, 0, 0, 0, 0, 0, 0, 0, 0, 0, 0, 0, 0, 0, 0, 0, 0, 0, 0, 0, 0, 0, 0, 0, 0, 0, 0, 0, 0, 0, 0, 0, 0, 0, 0, 0, 0, 0, 0, 0, 0, 0, 0, 0, 0, 0, 0,
  20, 92, 248, 508, 1016, 2042, 4090, 8184, 16380, 0, 0, 0, 0, 0, 0, 0, 0, 0, 0, 0, 0, 0, 0, 0, 0, 0, 0, 0, 0, 0, 10, 26, 32, 6, 0, 5, 3, 2, 6] (((↑(usZ 14 j2) : Int) =
  IntKind.wrap IntKind.i64 (cellI (lsK 14 j (usZ 14 j : Nat) (List.length (syZ 14 j) + 1)) 45 + (1 : Int))) /\ (E1 [0, 0, 0, 0, 0, 0, 0, 0, 0, 0, 0, 0, 0, 0, 0, 0, 0, 0, 0,
  0, 0, 0, 10, 36, 68, 74, 74, 79, 82, 84, 90, 0, 0, 0, 0, 0, 0, 0, 0, 0, 0, 0, 0, 0, 0, 0, 0] ((0 = 0) /\ ((List.length (syZ 14 j2) = List.length (syZ 14 j) + 1) /\ ((Eq (α
  := List Value) (nC (syZ 14 j2)) (List.take (List.length (syZ 14 j) * 1) (List.drop 0 (nC (syZ 14 j))) ++ [Value.int IntKind.i64 (↑j : Int)])) /\ ((Plain (nC (syZ 14 j2)))
  /\ True)))))))))))))))) False) False) (∃ j2 : Nat, ((Inv j2) /\ ((m j2 < m j) /\ ((0 = 0) /\ ((0 = 0) /\ (((16380 : Int) + (↑(usZ 14 j2) : Int) = (16380 : Int) + (↑(usZ 14
  j) : Int)) /\ ((E0 14) /\ (((↑j2 : Int) = IntKind.wrap IntKind.i64 ((↑j : Int) + (1 : Int))) /\ (E1 [0, 0, 0, 0, 0, 0, 0, 0, 0, 0, 0, 0, 0, 0, 0, 0, 0, 0, 0, 0, 0, 0, 0,
  0, 0, 0, 0, 0, 0, 0, 0, 0, 0, 0, 0, 0, 0, 0, 0, 0, 0, 0, 0, 0, 0, 0, 0, 0, 0, 0, 0, 0, 0, 0, 0, 0, 0, 0, 0, 0, 0, 0, 0, 0, 0, 0, 0, 0, 0, 0, 0, 0, 0, 0, 0, 0, 0, 0, 0, 0,
  0, 0, 0, 0, 0, 0, 0, 0, 0, 0, 0, 0, 0, 0, 0, 0, 0, 0, 0, 20, 92, 248, 508, 1016, 2042, 4090, 8184, 16380, 0, 0, 0, 0, 0, 0, 0, 0, 0, 0, 0, 0, 0, 0, 0, 0, 0, 0, 0, 0, 0,
  10, 26, 32, 6, 0, 5, 3, 2, 6] (((↑(usZ 14 j2) : Int) = (↑(usZ 14 j) : Int)) /\ (E1 [0, 0, 0, 0, 0, 0, 0, 0, 0, 0, 0, 0, 0, 0, 0, 0, 0, 0, 0, 0, 0, 0, 10, 36, 68, 74, 74,
  79, 82, 84, 90, 0, 0, 0, 0, 0, 0, 0, 0, 0, 0, 0, 0, 0, 0, 0, 0] ((0 = 0) /\ ((List.length (syZ 14 j2) = List.length (syZ 14 j)) /\ ((Eq (α := List Value) (nC (syZ 14 j2))
  (nC (syZ 14 j))) /\ ((Plain (nC (syZ 14 j2))) /\ True))))))))))))))))) (∃ y : Unit, ((True) /\ ((0 = 0) /\ ((0 = 0) /\ (((16382 : Int) = (16380 : Int) + (↑(usZ 14 j) :
  Int)) /\ (E1 [14, 0, 0, 0, 0, 0, 0, 0, 0, 0, 0, 0, 0, 0, 0, 0, 0, 0, 0, 0, 0, 0, 0, 0, 0, 0, 0, 0, 0, 0, 0, 0, 0, 0, 0, 0, 0, 0, 0, 0, 0, 0, 0, 0, 0, 0, 0, 0, 0, 0, 0, 0,
  0, 0, 0, 0, 0, 0, 0, 0, 0, 0, 0, 0, 0, 0, 0, 0, 0, 0, 0, 0, 0, 0, 0, 0, 0, 0, 0, 0, 0, 0, 0, 0, 0, 0, 0, 0, 0, 0, 0, 0, 0, 0, 0, 0, 0, 0, 0, 0, 20, 92, 248, 508, 1016,
  2042, 4090, 8184, 16380, 0, 0, 0, 0, 0, 0, 0, 0, 0, 0, 0, 0, 0, 0, 0, 0, 0, 0, 0, 0, 0, 10, 26, 32, 6, 0, 5, 3, 2, 6] (((2 : Int) = (↑(usZ 14 j) : Int)) /\ (E1 [0, 0, 0,
  0, 0, 0, 0, 0, 0, 0, 0, 0, 0, 0, 0, 0, 0, 0, 0, 0, 0, 0, 10, 36, 68, 74, 74, 79, 82, 84, 90, 0, 0, 0, 0, 0, 0, 0, 0, 0, 0, 0, 0, 0, 0, 0, 0] ((0 = 0) /\ ((92 = List.length
  (syZ 14 j)) /\ ((Eq (α := List Value) (nC (syZ (14 + 1) 0)) (nC (syZ 14 j))) /\ ((Plain (nC (syZ (14 + 1) 0))) /\ True))))))))))))) := by kernel_rfl
theorem M15_round (j : Nat) (Inv : Nat → Prop) (m : Nat → Nat) : mev EtM noM 60 27 (0 :: pMi) false (codeOf Try.prog 27 (0 :: pMi)) ⟨mkOv (slM 15 j), 45, []⟩ none ⟨mkR (rlM 15 j), 3⟩ (roundK 0 3 45 Inv m (slM 15) (rlM 15) (wsM 15) j) =
  (br (decide ((↑j : Int) <= (256 : Int))) ((((True /\ True) /\ (True /\ (True /\ True)))) /\ (br (hLenI (↑j : Int) == (15 : Int)) (br (decide (List.length (syZ 15 j) + 1 <=
  16777216)) (br (decide (0 + List.length (syZ 15 j) * 1 <= List.length (nC (syZ 15 j)))) ((Eq (α := Option Value) (some (Value.int IntKind.i64 (↑(usZ 15 j) : Int))) (some
  (Value.int IntKind.i64 (cellI (lsK 15 j (usZ 15 j : Nat) (List.length (syZ 15 j) + 1)) 46)))) /\ (∃ j2 : Nat, ((Inv j2) /\ ((m j2 < m j) /\ ((0 = 0) /\ ((0 = 0) /\
  (((32764 : Int) + (↑(usZ 15 j2) : Int) = IntKind.wrap IntKind.i64 ((32764 : Int) + (↑(usZ 15 j) : Int) + (1 : Int))) /\ ((E0 15) /\ (((↑j2 : Int) = IntKind.wrap
  IntKind.i64 ((↑j : Int) + (1 : Int))) /\ (E1 [0, 0, 0, 0, 0, 0, 0, 0, 0, 0, 0, 0, 0, 0, 0, 0, 0, 0, 0, 0, 0, 0, 0, 0, 0, 0, 0, 0, 0, 0, 0, 0, 0, 0, 0, 0, 0, 0, 0, 0, 0, 0,
  0, 0, 0, 0, 0, 0, 0, 0, 0, 0, 0, 0, 0, 0, 0, 0, 0, 0, 0, 0, 0, 0, 0, 0, 0, 0, 0, 0, 0, 0, 0, 0, 0, 0, 0, 0, 0, 0, 0, 0, 0, 0, 0, 0, 0, 0, 0, 0, 0, 0, 0, 0, 0, 0, 0, 0, 0,
  20, 92, 248, 508, 1016, 2042, 4090, 8184, 16380, 32764, 0, 0, 0, 0, 0, 0, 0, 0, 0, 0, 0, 0, 0, 0, 0, 0, 0, 0, 0, 0, 10, 26, 32, 6, 0, 5, 3, 2, 6, 2] (((↑(usZ 15 j2) : Int)
  = IntKind.wrap IntKind.i64 (cellI (lsK 15 j (usZ 15 j : Nat) (List.length (syZ 15 j) + 1)) 46 + (1 : Int))) /\ (E1 [0, 0, 0, 0, 0, 0, 0, 0, 0, 0, 0, 0, 0, 0, 0, 0, 0, 0,
  0, 0, 0, 10, 36, 68, 74, 74, 79, 82, 84, 90, 92, 0, 0, 0, 0, 0, 0, 0, 0, 0, 0, 0, 0, 0, 0, 0] ((0 = 0) /\ ((List.length (syZ 15 j2) = List.length (syZ 15 j) + 1) /\ ((Eq
  (α := List Value) (nC (syZ 15 j2)) (List.take (List.length (syZ 15 j) * 1) (List.drop 0 (nC (syZ 15 j))) ++ [Value.int IntKind.i64 (↑j : Int)])) /\ ((Plain (nC (syZ 15
  j2))) /\ True)))))))))))))))) False) False) (∃ j2 : Nat, ((Inv j2) /\ ((m j2 < m j) /\ ((0 = 0) /\ ((0 = 0) /\ (((32764 : Int) + (↑(usZ 15 j2) : Int) = (32764 : Int) +
  (↑(usZ 15 j) : Int)) /\ ((E0 15) /\ (((↑j2 : Int) = IntKind.wrap IntKind.i64 ((↑j : Int) + (1 : Int))) /\ (E1 [0, 0, 0, 0, 0, 0, 0, 0, 0, 0, 0, 0, 0, 0, 0, 0, 0, 0, 0, 0,
  0, 0, 0, 0, 0, 0, 0, 0, 0, 0, 0, 0, 0, 0, 0, 0, 0, 0, 0, 0, 0, 0, 0, 0, 0, 0, 0, 0, 0, 0, 0, 0, 0, 0, 0, 0, 0, 0, 0, 0, 0, 0, 0, 0, 0, 0, 0, 0, 0, 0, 0, 0, 0, 0, 0, 0, 0,
  0, 0, 0, 0, 0, 0, 0, 0, 0, 0, 0, 0, 0, 0, 0, 0, 0, 0, 0, 0, 0, 0, 20, 92, 248, 508, 1016, 2042, 4090, 8184, 16380, 32764, 0, 0, 0, 0, 0, 0, 0, 0, 0, 0, 0, 0, 0, 0, 0, 0,
  0, 0, 0, 0, 10, 26, 32, 6, 0, 5, 3, 2, 6, 2] (((↑(usZ 15 j2) : Int) = (↑(usZ 15 j) : Int)) /\ (E1 [0, 0, 0, 0, 0, 0, 0, 0, 0, 0, 0, 0, 0, 0, 0, 0, 0, 0, 0, 0, 0, 10, 36,
  68, 74, 74, 79, 82, 84, 90, 92, 0, 0, 0, 0, 0, 0, 0, 0, 0, 0, 0, 0, 0, 0, 0] ((0 = 0) /\ ((List.length (syZ 15 j2) = List.length (syZ 15 j)) /\ ((Eq (α := List Value) (nC
  (syZ 15 j2)) (nC (syZ 15 j))) /\ ((Plain (nC (syZ 15 j2))) /\ True))))))))))))))))) (∃ y : Unit, ((True) /\ ((0 = 0) /\ ((0 = 0) /\ (((32767 : Int) = (32764 : Int) +
  (↑(usZ 15 j) : Int)) /\ (E1 [15, 0, 0, 0, 0, 0, 0, 0, 0, 0, 0, 0, 0, 0, 0, 0, 0, 0, 0, 0, 0, 0, 0, 0, 0, 0, 0, 0, 0, 0, 0, 0, 0, 0, 0, 0, 0, 0, 0, 0, 0, 0, 0, 0, 0, 0, 0,
  0, 0, 0, 0, 0, 0, 0, 0, 0, 0, 0, 0, 0, 0, 0, 0, 0, 0, 0, 0, 0, 0, 0, 0, 0, 0, 0, 0, 0, 0, 0, 0, 0, 0, 0, 0, 0, 0, 0, 0, 0, 0, 0, 0, 0, 0, 0, 0, 0, 0, 0, 0, 0, 20, 92, 248,
  508, 1016, 2042, 4090, 8184, 16380, 32764, 0, 0, 0, 0, 0, 0, 0, 0, 0, 0, 0, 0, 0, 0, 0, 0, 0, 0, 0, 0, 10, 26, 32, 6, 0, 5, 3, 2, 6, 2] (((3 : Int) = (↑(usZ 15 j) : Int))
  /\ (E1 [0, 0, 0, 0, 0, 0, 0, 0, 0, 0, 0, 0, 0, 0, 0, 0, 0, 0, 0, 0, 0, 10, 36, 68, 74, 74, 79, 82, 84, 90, 92, 0, 0, 0, 0, 0, 0, 0, 0, 0, 0, 0, 0, 0, 0, 0] ((0 = 0) /\
  ((95 = List.length (syZ 15 j)) /\ ((Eq (α := List Value) (nC (syZ (15 + 1) 0)) (nC (syZ 15 j))) /\ ((Plain (nC (syZ (15 + 1) 0))) /\ True))))))))))))) := by kernel_rfl
theorem M16_round (j : Nat) (Inv : Nat → Prop) (m : Nat → Nat) : mev EtM noM 60 27 (0 :: pMi) false (codeOf Try.prog 27 (0 :: pMi)) ⟨mkOv (slM 16 j), 45, []⟩ none ⟨mkR (rlM 16 j), 3⟩ (roundK 0 3 45 Inv m (slM 16) (rlM 16) (wsM 16) j) =
  (br (decide ((↑j : Int) <= (256 : Int))) ((((True /\ True) /\ (True /\ (True /\ True)))) /\ (br (hLenI (↑j : Int) == (16 : Int)) (br (decide (List.length (syZ 16 j) + 1 <=
  16777216)) (br (decide (0 + List.length (syZ 16 j) * 1 <= List.length (nC (syZ 16 j)))) ((Eq (α := Option Value) (some (Value.int IntKind.i64 (↑(usZ 16 j) : Int))) (some
  (Value.int IntKind.i64 (cellI (lsK 16 j (usZ 16 j : Nat) (List.length (syZ 16 j) + 1)) 47)))) /\ (∃ j2 : Nat, ((Inv j2) /\ ((m j2 < m j) /\ ((0 = 0) /\ ((0 = 0) /\
  (((65534 : Int) + (↑(usZ 16 j2) : Int) = IntKind.wrap IntKind.i64 ((65534 : Int) + (↑(usZ 16 j) : Int) + (1 : Int))) /\ ((E0 16) /\ (((↑j2 : Int) = IntKind.wrap
  IntKind.i64 ((↑j : Int) + (1 : Int))) /\ (E1 [0, 0, 0, 0, 0, 0, 0, 0, 0, 0, 0, 0, 0, 0, 0, 0, 0, 0, 0, 0, 0, 0, 0, 0, 0, 0, 0, 0, 0, 0, 0, 0, 0, 0, 0, 0, 0, 0, 0, 0, 0, 0,
  0, 0, 0, 0, 0, 0, 0, 0, 0, 0, 0, 0, 0, 0, 0, 0, 0, 0, 0, 0, 0, 0, 0, 0, 0, 0, 0, 0, 0, 0, 0, 0, 0, 0, 0, 0, 0, 0, 0, 0, 0, 0, 0, 0, 0, 0, 0, 0, 0, 0, 0, 0, 0, 0, 0, 0, 0,
  20, 92, 248, 508, 1016, 2042, 4090, 8184, 16380, 32764, 65534, 0, 0, 0, 0, 0, 0, 0, 0, 0, 0, 0, 0, 0, 0, 0, 0, 0, 0, 0, 10, 26, 32, 6, 0, 5, 3, 2, 6, 2, 3] (((↑(usZ 16 j2)
  : Int) = IntKind.wrap IntKind.i64 (cellI (lsK 16 j (usZ 16 j : Nat) (List.length (syZ 16 j) + 1)) 47 + (1 : Int))) /\ (E1 [0, 0, 0, 0, 0, 0, 0, 0, 0, 0, 0, 0, 0, 0, 0, 0,
  0, 0, 0, 0, 10, 36, 68, 74, 74, 79, 82, 84, 90, 92, 95, 0, 0, 0, 0, 0, 0, 0, 0, 0, 0, 0, 0, 0, 0] ((0 = 0) /\ ((List.length (syZ 16 j2) = List.length (syZ 16 j) + 1) /\
  ((Eq (α := List Value) (nC (syZ 16 j2)) (List.take (List.length (syZ 16 j) * 1) (List.drop 0 (nC (syZ 16 j))) ++ [Value.int IntKind.i64 (↑j : Int)])) /\ ((Plain (nC (syZ
  16 j2))) /\ True)))))))))))))))) False) False) (∃ j2 : Nat, ((Inv j2) /\ ((m j2 < m j) /\ ((0 = 0) /\ ((0 = 0) /\ (((65534 : Int) + (↑(usZ 16 j2) : Int) = (65534 : Int) +
  (↑(usZ 16 j) : Int)) /\ ((E0 16) /\ (((↑j2 : Int) = IntKind.wrap IntKind.i64 ((↑j : Int) + (1 : Int))) /\ (E1 [0, 0, 0, 0, 0, 0, 0, 0, 0, 0, 0, 0, 0, 0, 0, 0, 0, 0, 0, 0,
  0, 0, 0, 0, 0, 0, 0, 0, 0, 0, 0, 0, 0, 0, 0, 0, 0, 0, 0, 0, 0, 0, 0, 0, 0, 0, 0, 0, 0, 0, 0, 0, 0, 0, 0, 0, 0, 0, 0, 0, 0, 0, 0, 0, 0, 0, 0, 0, 0, 0, 0, 0, 0, 0, 0, 0, 0,
  0, 0, 0, 0, 0, 0, 0, 0, 0, 0, 0, 0, 0, 0, 0, 0, 0, 0, 0, 0, 0, 0, 20, 92, 248, 508, 1016, 2042, 4090, 8184, 16380, 32764, 65534, 0, 0, 0, 0, 0, 0, 0, 0, 0, 0, 0, 0, 0, 0,
  0, 0, 0, 0, 0, 10, 26, 32, 6, 0, 5, 3, 2, 6, 2, 3] (((↑(usZ 16 j2) : Int) = (↑(usZ 16 j) : Int)) /\ (E1 [0, 0, 0, 0, 0, 0, 0, 0, 0, 0, 0, 0, 0, 0, 0, 0, 0, 0, 0, 0, 10,
  36, 68, 74, 74, 79, 82, 84, 90, 92, 95, 0, 0, 0, 0, 0, 0, 0, 0, 0, 0, 0, 0, 0, 0] ((0 = 0) /\ ((List.length (syZ 16 j2) = List.length (syZ 16 j)) /\ ((Eq (α := List Value)
  (nC (syZ 16 j2)) (nC (syZ 16 j))) /\ ((Plain (nC (syZ 16 j2))) /\ True))))))))))))))))) (∃ y : Unit, ((True) /\ ((0 = 0) /\ ((0 = 0) /\ (((65534 : Int) = (65534 : Int) +
  (↑(usZ 16 j) : Int)) /\ (E1 [16, 0, 0, 0, 0, 0, 0, 0, 0, 0, 0, 0, 0, 0, 0, 0, 0, 0, 0, 0, 0, 0, 0, 0, 0, 0, 0, 0, 0, 0, 0, 0, 0, 0, 0, 0, 0, 0, 0, 0, 0, 0, 0, 0, 0, 0, 0,
  0, 0, 0, 0, 0, 0, 0, 0, 0, 0, 0, 0, 0, 0, 0, 0, 0, 0, 0, 0, 0, 0, 0, 0, 0, 0, 0, 0, 0, 0, 0, 0, 0, 0, 0, 0, 0, 0, 0, 0, 0, 0, 0, 0, 0, 0, 0, 0, 0, 0, 0, 0, 0, 20, 92, 248,
  508, 1016, 2042, 4090, 8184, 16380, 32764, 65534, 0, 0, 0, 0, 0, 0, 0, 0, 0, 0, 0, 0, 0, 0, 0, 0, 0, 0, 0, 10, 26, 32, 6, 0, 5, 3, 2, 6, 2, 3] (((0 : Int) = (↑(usZ 16 j) :
  Int)) /\ (E1 [0, 0, 0, 0, 0, 0, 0, 0, 0, 0, 0, 0, 0, 0, 0, 0, 0, 0, 0, 0, 10, 36, 68, 74, 74, 79, 82, 84, 90, 92, 95, 0, 0, 0, 0, 0, 0, 0, 0, 0, 0, 0, 0, 0, 0] ((0 = 0) /\
  ((95 = List.length (syZ 16 j)) /\ ((Eq (α := List Value) (nC (syZ (16 + 1) 0)) (nC (syZ 16 j))) /\ ((Plain (nC (syZ (16 + 1) 0))) /\ True))))))))))))) := by kernel_rfl
theorem M17_round (j : Nat) (Inv : Nat → Prop) (m : Nat → Nat) : mev EtM noM 60 27 (0 :: pMi) false (codeOf Try.prog 27 (0 :: pMi)) ⟨mkOv (slM 17 j), 45, []⟩ none ⟨mkR (rlM 17 j), 3⟩ (roundK 0 3 45 Inv m (slM 17) (rlM 17) (wsM 17) j) =
  (br (decide ((↑j : Int) <= (256 : Int))) ((((True /\ True) /\ (True /\ (True /\ True)))) /\ (br (hLenI (↑j : Int) == (17 : Int)) (br (decide (List.length (syZ 17 j) + 1 <=
  16777216)) (br (decide (0 + List.length (syZ 17 j) * 1 <= List.length (nC (syZ 17 j)))) ((Eq (α := Option Value) (some (Value.int IntKind.i64 (↑(usZ 17 j) : Int))) (some
  (Value.int IntKind.i64 (cellI (lsK 17 j (usZ 17 j : Nat) (List.length (syZ 17 j) + 1)) 48)))) /\ (∃ j2 : Nat, ((Inv j2) /\ ((m j2 < m j) /\ ((0 = 0) /\ ((0 = 0) /\
  (((131068 : Int) + (↑(usZ 17 j2) : Int) = IntKind.wrap IntKind.i64 ((131068 : Int) + (↑(usZ 17 j) : Int) + (1 : Int))) /\ ((E0 17) /\ (((↑j2 : Int) = IntKind.wrap
  IntKind.i64 ((↑j : Int) + (1 : Int))) /\ (E1 [0, 0, 0, 0, 0, 0, 0, 0, 0, 0, 0, 0, 0, 0, 0, 0, 0, 0, 0, 0, 0, 0, 0, 0, 0, 0, 0, 0, 0, 0, 0, 0, 0, 0, 0, 0, 0, 0, 0, 0, 0, 0,
  0, 0, 0, 0, 0, 0, 0, 0, 0, 0, 0, 0, 0, 0, 0, 0, 0, 0, 0, 0, 0, 0, 0, 0, 0, 0, 0, 0, 0, 0, 0, 0, 0, 0, 0, 0, 0, 0, 0, 0, 0, 0, 0, 0, 0, 0, 0, 0, 0, 0, 0, 0, 0, 0, 0, 0, 0,
  20, 92, 248, 508, 1016, 2042, 4090, 8184, 16380, 32764, 65534, 131068, 0, 0, 0, 0, 0, 0, 0, 0, 0, 0, 0, 0, 0, 0, 0, 0, 0, 0, 10, 26, 32, 6, 0, 5, 3, 2, 6, 2, 3, 0]
  (((↑(usZ 17 j2) : Int) = IntKind.wrap IntKind.i64 (cellI (lsK 17 j (usZ 17 j : Nat) (List.length (syZ 17 j) + 1)) 48 + (1 : Int))) /\ (E1 [0, 0, 0, 0, 0, 0, 0, 0, 0, 0, 0,
  0, 0, 0, 0, 0, 0, 0, 0, 10, 36, 68, 74, 74, 79, 82, 84, 90, 92, 95, 95, 0, 0, 0, 0, 0, 0, 0, 0, 0, 0, 0, 0, 0] ((0 = 0) /\ ((List.length (syZ 17 j2) = List.length (syZ 17
  j) + 1) /\ ((Eq (α := List Value) (nC (syZ 17 j2)) (List.take (List.length (syZ 17 j) * 1) (List.drop 0 (nC (syZ 17 j))) ++ [Value.int IntKind.i64 (↑j : Int)])) /\ ((Plain
  (nC (syZ 17 j2))) /\ True)))))))))))))))) False) False) (∃ j2 : Nat, ((Inv j2) /\ ((m j2 < m j) /\ ((0 = 0) /\ ((0 = 0) /\ (((131068 : Int) + (↑(usZ 17 j2) : Int) =
  (131068 : Int) + (↑(usZ 17 j) : Int)) /\ ((E0 17) /\ (((↑j2 : Int) = IntKind.wrap IntKind.i64 ((↑j : Int) + (1 : Int))) /\ (E1 [0, 0, 0, 0, 0, 0, 0, 0, 0, 0, 0, 0, 0, 0,
  0, 0, 0, 0, 0, 0, 0, 0, 0, 0, 0, 0, 0, 0, 0, 0, 0, 0, 0, 0, 0, 0, 0, 0, 0, 0, 0, 0, 0, 0, 0, 0, 0, 0, 0, 0, 0, 0, 0, 0, 0, 0, 0, 0, 0, 0, 0, 0, 0, 0, 0, 0, 0, 0, 0, 0, 0,
  0, 0, 0, 0, 0, 0, 0, 0, 0, 0, 0, 0, 0, 0, 0, 0, 0, 0, 0, 0, 0, 0, 0, 0, 0, 0, 0, 0, 20, 92, 248, 508, 1016, 2042, 4090, 8184, 16380, 32764, 65534, 131068, 0, 0, 0, 0, 0,
  0, 0, 0, 0, 0, 0, 0, 0, 0, 0, 0, 0, 0, 10, 26, 32, 6, 0, 5, 3, 2, 6, 2, 3, 0] (((↑(usZ 17 j2) : Int) = (↑(usZ 17 j) : Int)) /\ (E1 [0, 0, 0, 0, 0, 0, 0, 0, 0, 0, 0, 0, 0,
  0, 0, 0, 0, 0, 0, 10, 36, 68, 74, 74, 79, 82, 84, 90, 92, 95, 95, 0, 0, 0, 0, 0, 0, 0, 0, 0, 0, 0, 0, 0] ((0 = 0) /\ ((List.length (syZ 17 j2) = List.length (syZ 17 j)) /\
  ((Eq (α := List Value) (nC (syZ 17 j2)) (nC (syZ 17 j))) /\ ((Plain (nC (syZ 17 j2))) /\ True))))))))))))))))) (∃ y : Unit, ((True) /\ ((0 = 0) /\ ((0 = 0) /\ (((131068 :
  Int) = (131068 : Int) + (↑(usZ 17 j) : Int)) /\ (E1 [17, 0, 0, 0, 0, 0, 0, 0, 0, 0, 0, 0, 0, 0, 0, 0, 0, 0, 0, 0, 0, 0, 0, 0, 0, 0, 0, 0, 0, 0, 0, 0, 0, 0, 0, 0, 0, 0, 0,
  0, 0, 0, 0, 0, 0, 0, 0, 0, 0, 0, 0, 0, 0, 0, 0, 0, 0, 0, 0, 0, 0, 0, 0, 0, 0, 0, 0, 0, 0, 0, 0, 0, 0, 0, 0, 0, 0, 0, 0, 0, 0, 0, 0, 0, 0, 0, 0, 0, 0, 0, 0, 0, 0, 0, 0, 0,
  0, 0, 0, 0, 20, 92, 248, 508, 1016, 2042, 4090, 8184, 16380, 32764, 65534, 131068, 0, 0, 0, 0, 0, 0, 0, 0, 0, 0, 0, 0, 0, 0, 0, 0, 0, 0, 10, 26, 32, 6, 0, 5, 3, 2, 6, 2,
  3, 0] (((0 : Int) = (↑(usZ 17 j) : Int)) /\ (E1 [0, 0, 0, 0, 0, 0, 0, 0, 0, 0, 0, 0, 0, 0, 0, 0, 0, 0, 0, 10, 36, 68, 74, 74, 79, 82, 84, 90, 92, 95, 95, 0, 0, 0, 0, 0, 0,
  0, 0, 0, 0, 0, 0, 0] ((0 = 0) /\ ((95 = List.length (syZ 17 j)) /\ ((Eq (α := List Value) (nC (syZ (17 + 1) 0)) (nC (syZ 17 j))) /\ ((Plain (nC (syZ (17 + 1) 0))) /\
  True))))))))))))) := by kernel_rfl
theorem M18_round (j : Nat) (Inv : Nat → Prop) (m : Nat → Nat) : mev EtM noM 60 27 (0 :: pMi) false (codeOf Try.prog 27 (0 :: pMi)) ⟨mkOv (slM 18 j), 45, []⟩ none ⟨mkR (rlM 18 j), 3⟩ (roundK 0 3 45 Inv m (slM 18) (rlM 18) (wsM 18) j) =
  (br (decide ((↑j : Int) <= (256 : Int))) ((((True /\ True) /\ (True /\ (True /\ True)))) /\ (br (hLenI (↑j : Int) == (18 : Int)) (br (decide (List.length (syZ 18 j) + 1 <=
  16777216)) (br (decide (0 + List.length (syZ 18 j) * 1 <= List.length (nC (syZ 18 j)))) ((Eq (α := Option Value) (some (Value.int IntKind.i64 (↑(usZ 18 j) : Int))) (some
  (Value.int IntKind.i64 (cellI (lsK 18 j (usZ 18 j : Nat) (List.length (syZ 18 j) + 1)) 49)))) /\ (∃ j2 : Nat, ((Inv j2) /\ ((m j2 < m j) /\ ((0 = 0) /\ ((0 = 0) /\
  (((262136 : Int) + (↑(usZ 18 j2) : Int) = IntKind.wrap IntKind.i64 ((262136 : Int) + (↑(usZ 18 j) : Int) + (1 : Int))) /\ ((E0 18) /\ (((↑j2 : Int) = IntKind.wrap
  IntKind.i64 ((↑j : Int) + (1 : Int))) /\ (E1 [0, 0, 0, 0, 0, 0, 0, 0, 0, 0, 0, 0, 0, 0, 0, 0, 0, 0, 0, 0, 0, 0, 0, 0, 0, 0, 0, 0, 0, 0, 0, 0, 0, 0, 0, 0, 0, 0, 0, 0, 0, 0,
  0, 0, 0, 0, 0, 0, 0, 0, 0, 0, 0, 0, 0, 0, 0, 0, 0, 0, 0, 0, 0, 0, 0, 0, 0, 0, 0, 0, 0, 0, 0, 0, 0, 0, 0, 0, 0, 0, 0, 0, 0, 0, 0, 0, 0, 0, 0, 0, 0, 0, 0, 0, 0, 0, 0, 0, 0,
  20, 92, 248, 508, 1016, 2042, 4090, 8184, 16380, 32764, 65534, 131068, 262136, 0, 0, 0, 0, 0, 0, 0, 0, 0, 0, 0, 0, 0, 0, 0, 0, 0, 10, 26, 32, 6, 0, 5, 3, 2, 6, 2, 3, 0, 0]
  (((↑(usZ 18 j2) : Int) = IntKind.wrap IntKind.i64 (cellI (lsK 18 j (usZ 18 j : Nat) (List.length (syZ 18 j) + 1)) 49 + (1 : Int))) /\ (E1 [0, 0, 0, 0, 0, 0, 0, 0, 0, 0, 0,
  0, 0, 0, 0, 0, 0, 0, 10, 36, 68, 74, 74, 79, 82, 84, 90, 92, 95, 95, 95, 0, 0, 0, 0, 0, 0, 0, 0, 0, 0, 0, 0] ((0 = 0) /\ ((List.length (syZ 18 j2) = List.length (syZ 18 j)
  + 1) /\ ((Eq (α := List Value) (nC (syZ 18 j2)) (List.take (List.length (syZ 18 j) * 1) (List.drop 0 (nC (syZ 18 j))) ++ [Value.int IntKind.i64 (↑j : Int)])) /\ ((Plain
  (nC (syZ 18 j2))) /\ True)))))))))))))))) False) False) (∃ j2 : Nat, ((Inv j2) /\ ((m j2 < m j) /\ ((0 = 0) /\ ((0 = 0) /\ (((262136 : Int) + (↑(usZ 18 j2) : Int) =
  (262136 : Int) + (↑(usZ 18 j) : Int)) /\ ((E0 18) /\ (((↑j2 : Int) = IntKind.wrap IntKind.i64 ((↑j : Int) + (1 : Int))) /\ (E1 [0, 0, 0, 0, 0, 0, 0, 0, 0, 0, 0, 0, 0, 0,
  0, 0, 0, 0, 0, 0, 0, 0, 0, 0, 0, 0, 0, 0, 0, 0, 0, 0, 0, 0, 0, 0, 0, 0, 0, 0, 0, 0, 0, 0, 0, 0, 0, 0, 0, 0, 0, 0, 0, 0, 0, 0, 0, 0, 0, 0, 0, 0, 0, 0, 0, 0, 0, 0, 0, 0, 0,
  0, 0, 0, 0, 0, 0, 0, 0, 0, 0, 0, 0, 0, 0, 0, 0, 0, 0, 0, 0, 0, 0, 0, 0, 0, 0, 0, 0, 20, 92, 248, 508, 1016, 2042, 4090, 8184, 16380, 32764, 65534, 131068, 262136, 0, 0, 0,
  0, 0, 0, 0, 0, 0, 0, 0, 0, 0, 0, 0, 0, 0, 10, 26, 32, 6, 0, 5, 3, 2, 6, 2, 3, 0, 0] (((↑(usZ 18 j2) : Int) = (↑(usZ 18 j) : Int)) /\ (E1 [0, 0, 0, 0, 0, 0, 0, 0, 0, 0, 0,
  0, 0, 0, 0, 0, 0, 0, 10, 36, 68, 74, 74, 79, 82, 84, 90, 92, 95, 95, 95, 0, 0, 0, 0, 0, 0, 0, 0, 0, 0, 0, 0] ((0 = 0) /\ ((List.length (syZ 18 j2) = List.length (syZ 18
  j)) /\ ((Eq (α := List Value) (nC (syZ 18 j2)) (nC (syZ 18 j))) /\ ((Plain (nC (syZ 18 j2))) /\ True))))))))))))))))) (∃ y : Unit, ((True) /\ ((0 = 0) /\ ((0 = 0) /\
  (((262136 : Int) = (262136 : Int) + (↑(usZ 18 j) : Int)) /\ (E1 [18, 0, 0, 0, 0, 0, 0, 0, 0, 0, 0, 0, 0, 0, 0, 0, 0, 0, 0, 0, 0, 0, 0, 0, 0, 0, 0, 0, 0, 0, 0, 0, 0, 0, 0,
  0, 0, 0, 0, 0, 0, 0, 0, 0, 0, 0, 0, 0, 0, 0, 0, 0, 0, 0, 0, 0, 0, 0, 0, 0, 0, 0, 0, 0, 0, 0, 0, 0, 0, 0, 0, 0, 0, 0, 0, 0, 0, 0, 0, 0, 0, 0, 0, 0, 0, 0, 0, 0, 0, 0, 0, 0,
  0, 0, 0, 0, 0, 0, 0, 0, 20, 92, 248, 508, 1016, 2042, 4090, 8184, 16380, 32764, 65534, 131068, 262136, 0, 0, 0, 0, 0, 0, 0, 0, 0, 0, 0, 0, 0, 0, 0, 0, 0, 10, 26, 32, 6, 0,
  5, 3, 2, 6, 2, 3, 0, 0] (((0 : Int) = (↑(usZ 18 j) : Int)) /\ (E1 [0, 0, 0, 0, 0, 0, 0, 0, 0, 0, 0, 0, 0, 0, 0, 0, 0, 0, 10, 36, 68, 74, 74, 79, 82, 84, 90, 92, 95, 95,
  95, 0, 0, 0, 0, 0, 0, 0, 0, 0, 0, 0, 0] ((0 = 0) /\ ((95 = List.length (syZ 18 j)) /\ ((Eq (α := List Value) (nC (syZ (18 + 1) 0)) (nC (syZ 18 j))) /\ ((Plain (nC (syZ (18
  + 1) 0))) /\ True))))))))))))) := by kernel_rfl
theorem M19_round (j : Nat) (Inv : Nat → Prop) (m : Nat → Nat) : mev EtM noM 60 27 (0 :: pMi) false (codeOf Try.prog 27 (0 :: pMi)) ⟨mkOv (slM 19 j), 45, []⟩ none ⟨mkR (rlM 19 j), 3⟩ (roundK 0 3 45 Inv m (slM 19) (rlM 19) (wsM 19) j) =
  (br (decide ((↑j : Int) <= (256 : Int))) ((((True /\ True) /\ (True /\ (True /\ True)))) /\ (br (hLenI (↑j : Int) == (19 : Int)) (br (decide (List.length (syZ 19 j) + 1 <=
  16777216)) (br (decide (0 + List.length (syZ 19 j) * 1 <= List.length (nC (syZ 19 j)))) ((Eq (α := Option Value) (some (Value.int IntKind.i64 (↑(usZ 19 j) : Int))) (some
  (Value.int IntKind.i64 (cellI (lsK 19 j (usZ 19 j : Nat) (List.length (syZ 19 j) + 1)) 50)))) /\ (∃ j2 : Nat, ((Inv j2) /\ ((m j2 < m j) /\ ((0 = 0) /\ ((0 = 0) /\
  (((524272 : Int) + (↑(usZ 19 j2) : Int) = IntKind.wrap IntKind.i64 ((524272 : Int) + (↑(usZ 19 j) : Int) + (1 : Int))) /\ ((E0 19) /\ (((↑j2 : Int) = IntKind.wrap
  IntKind.i64 ((↑j : Int) + (1 : Int))) /\ (E1 [0, 0, 0, 0, 0, 0, 0, 0, 0, 0, 0, 0, 0, 0, 0, 0, 0, 0, 0, 0, 0, 0, 0, 0, 0, 0, 0, 0, 0, 0, 0, 0, 0, 0, 0, 0, 0, 0, 0, 0, 0, 0,
  0, 0, 0, 0, 0, 0, 0, 0, 0, 0, 0, 0, 0, 0, 0, 0, 0, 0, 0, 0, 0, 0, 0, 0, 0, 0, 0, 0, 0, 0, 0, 0, 0, 0, 0, 0, 0, 0, 0, 0, 0, 0, 0, 0, 0, 0, 0, 0, 0, 0, 0, 0, 0, 0, 0, 0, 0,
  20, 92, 248, 508, 1016, 2042, 4090, 8184, 16380, 32764, 65534, 131068, 262136, 524272, 0, 0, 0, 0, 0, 0, 0, 0, 0, 0, 0, 0, 0, 0, 0, 0, 10, 26, 32, 6, 0, 5, 3, 2, 6, 2, 3,
  0, 0, 0] (((↑(usZ 19 j2) : Int) = IntKind.wrap IntKind.i64 (cellI (lsK 19 j (usZ 19 j : Nat) (List.length (syZ 19 j) + 1)) 50 + (1 : Int))) /\ (E1 [0, 0, 0, 0, 0, 0, 0, 0,
  0, 0, 0, 0, 0, 0, 0, 0, 0, 10, 36, 68, 74, 74, 79, 82, 84, 90, 92, 95, 95, 95, 95, 0, 0, 0, 0, 0, 0, 0, 0, 0, 0, 0] ((0 = 0) /\ ((List.length (syZ 19 j2) = List.length
  (syZ 19 j) + 1) /\ ((Eq (α := List Value) (nC (syZ 19 j2)) (List.take (List.length (syZ 19 j) * 1) (List.drop 0 (nC (syZ 19 j))) ++ [Value.int IntKind.i64 (↑j : Int)])) /\
  ((Plain (nC (syZ 19 j2))) /\ True)))))))))))))))) False) False) (∃ j2 : Nat, ((Inv j2) /\ ((m j2 < m j) /\ ((0 = 0) /\ ((0 = 0) /\ (((524272 : Int) + (↑(usZ 19 j2) : Int)
  = (524272 : Int) + (↑(usZ 19 j) : Int)) /\ ((E0 19) /\ (((↑j2 : Int) = IntKind.wrap IntKind.i64 ((↑j : Int) + (1 : Int))) /\ (E1 [0, 0, 0, 0, 0, 0, 0, 0, 0, 0, 0, 0, 0, 0,
  0, 0, 0, 0, 0, 0, 0, 0, 0, 0, 0, 0, 0, 0, 0, 0, 0, 0, 0, 0, 0, 0, 0, 0, 0, 0, 0, 0, 0, 0, 0, 0, 0, 0, 0, 0, 0, 0, 0, 0, 0, 0, 0, 0, 0, 0, 0, 0, 0, 0, 0, 0, 0, 0, 0, 0, 0,
  0, 0, 0, 0, 0, 0, 0, 0, 0, 0, 0, 0, 0, 0, 0, 0, 0, 0, 0, 0, 0, 0, 0, 0, 0, 0, 0, 0, 20, 92, 248, 508, 1016, 2042, 4090, 8184, 16380, 32764, 65534, 131068, 262136, 524272,
  0, 0, 0, 0, 0, 0, 0, 0, 0, 0, 0, 0, 0, 0, 0, 0, 10, 26, 32, 6, 0, 5, 3, 2, 6, 2, 3, 0, 0, 0] (((↑(usZ 19 j2) : Int) = (↑(usZ 19 j) : Int)) /\ (E1 [0, 0, 0, 0, 0, 0, 0, 0,
  0, 0, 0, 0, 0, 0, 0, 0, 0, 10, 36, 68, 74, 74, 79, 82, 84, 90, 92, 95, 95, 95, 95, 0, 0, 0, 0, 0, 0, 0, 0, 0, 0, 0] ((0 = 0) /\ ((List.length (syZ 19 j2) = List.length
  (syZ 19 j)) /\ ((Eq (α := List Value) (nC (syZ 19 j2)) (nC (syZ 19 j))) /\ ((Plain (nC (syZ 19 j2))) /\ True))))))))))))))))) (∃ y : Unit, ((True) /\ ((0 = 0) /\ ((0 = 0)
  /\ (((524275 : Int) = (524272 : Int) + (↑(usZ 19 j) : Int)) /\ (E1 [19, 0, 0, 0, 0, 0, 0, 0, 0, 0, 0, 0, 0, 0, 0, 0, 0, 0, 0, 0, 0, 0, 0, 0, 0, 0, 0, 0, 0, 0, 0, 0, 0, 0,
  0, 0, 0, 0, 0, 0, 0, 0, 0, 0, 0, 0, 0, 0, 0, 0, 0, 0, 0, 0, 0, 0, 0, 0, 0, 0, 0, 0, 0, 0, 0, 0, 0, 0, 0, 0, 0, 0, 0, 0, 0, 0, 0, 0, 0, 0, 0, 0, 0, 0, 0, 0, 0, 0, 0, 0, 0,
  0, 0, 0, 0, 0, 0, 0, 0, 0, 20, 92, 248, 508, 1016, 2042, 4090, 8184, 16380, 32764, 65534, 131068, 262136, 524272, 0, 0, 0, 0, 0, 0, 0, 0, 0, 0, 0, 0, 0, 0, 0, 0, 10, 26,
  32, 6, 0, 5, 3, 2, 6, 2, 3, 0, 0, 0] (((3 : Int) = (↑(usZ 19 j) : Int)) /\ (E1 [0, 0, 0, 0, 0, 0, 0, 0, 0, 0, 0, 0, 0, 0, 0, 0, 0, 10, 36, 68, 74, 74, 79, 82, 84, 90, 92,
  95, 95, 95, 95, 0, 0, 0, 0, 0, 0, 0, 0, 0, 0, 0] ((0 = 0) /\ ((98 = List.length (syZ 19 j)) /\ ((Eq (α := List Value) (nC (syZ (19 + 1) 0)) (nC (syZ 19 j))) /\ ((Plain (nC
  (syZ (19 + 1) 0))) /\ True))))))))))))) := by kernel_rfl
theorem M20_round (j : Nat) (Inv : Nat → Prop) (m : Nat → Nat) : mev EtM noM 60 27 (0 :: pMi) false (codeOf Try.prog 27 (0 :: pMi)) ⟨mkOv (slM 20 j), 45, []⟩ none ⟨mkR (rlM 20 j), 3⟩ (roundK 0 3 45 Inv m (slM 20) (rlM 20) (wsM 20) j) =
  (br (decide ((↑j : Int) <= (256 : Int))) ((((True /\ True) /\ (True /\ (True /\ True)))) /\ (br (hLenI (↑j : Int) == (20 : Int)) (br (decide (List.length (syZ 20 j) + 1 <=
  16777216)) (br (decide (0 + List.length (syZ 20 j) * 1 <= List.length (nC (syZ 20 j)))) ((Eq (α := Option Value) (some (Value.int IntKind.i64 (↑(usZ 20 j) : Int))) (some
  (Value.int IntKind.i64 (cellI (lsK 20 j (usZ 20 j : Nat) (List.length (syZ 20 j) + 1)) 51)))) /\ (∃ j2 : Nat, ((Inv j2) /\ ((m j2 < m j) /\ ((0 = 0) /\ ((0 = 0) /\
  (((1048550 : Int) + (↑(usZ 20 j2) : Int) = IntKind.wrap IntKind.i64 ((1048550 : Int) + (↑(usZ 20 j) : Int) + (1 : Int))) /\ ((E0 20) /\ (((↑j2 : Int) = IntKind.wrap
  IntKind.i64 ((↑j : Int) + (1 : Int))) /\ (E1 [0, 0, 0, 0, 0, 0, 0, 0, 0, 0, 0, 0, 0, 0, 0, 0, 0, 0, 0, 0, 0, 0, 0, 0, 0, 0, 0, 0, 0, 0, 0, 0, 0, 0, 0, 0, 0, 0, 0, 0, 0, 0,
  0, 0, 0, 0, 0, 0, 0, 0, 0, 0, 0, 0, 0, 0, 0, 0, 0, 0, 0, 0, 0, 0, 0, 0, 0, 0, 0, 0, 0, 0, 0, 0, 0, 0, 0, 0, 0, 0, 0, 0, 0, 0, 0, 0, 0, 0, 0, 0, 0, 0, 0, 0, 0, 0, 0, 0, 0,
  20, 92, 248, 508, 1016, 2042, 4090, 8184, 16380, 32764, 65534, 131068, 262136, 524272, 1048550, 0, 0, 0, 0, 0, 0, 0, 0, 0, 0, 0, 0, 0, 0, 0, 10, 26, 32, 6, 0, 5, 3, 2, 6,
  2, 3, 0, 0, 0, 3] (((↑(usZ 20 j2) : Int) = IntKind.wrap IntKind.i64 (cellI (lsK 20 j (usZ 20 j : Nat) (List.length (syZ 20 j) + 1)) 51 + (1 : Int))) /\ (E1 [0, 0, 0, 0, 0,
  0, 0, 0, 0, 0, 0, 0, 0, 0, 0, 0, 10, 36, 68, 74, 74, 79, 82, 84, 90, 92, 95, 95, 95, 95, 98, 0, 0, 0, 0, 0, 0, 0, 0, 0, 0] ((0 = 0) /\ ((List.length (syZ 20 j2) =
  List.length (syZ 20 j) + 1) /\ ((Eq (α := List Value) (nC (syZ 20 j2)) (List.take (List.length (syZ 20 j) * 1) (List.drop 0 (nC (syZ 20 j))) ++ [Value.int IntKind.i64 (↑j
  : Int)])) /\ ((Plain (nC (syZ 20 j2))) /\ True)))))))))))))))) False) False) (∃ j2 : Nat, ((Inv j2) /\ ((m j2 < m j) /\ ((0 = 0) /\ ((0 = 0) /\ (((1048550 : Int) + (↑(usZ
  20 j2) : Int) = (1048550 : Int) + (↑(usZ 20 j) : Int)) /\ ((E0 20) /\ (((↑j2 : Int) = IntKind.wrap IntKind.i64 ((↑j : Int) + (1 : Int))) /\ (E1 [0, 0, 0, 0, 0, 0, 0, 0, 0,
  0, 0, 0, 0, 0, 0, 0, 0, 0, 0, 0, 0, 0, 0, 0, 0, 0, 0, 0, 0, 0, 0, 0, 0, 0, 0, 0, 0, 0, 0, 0, 0, 0, 0, 0, 0, 0, 0, 0, 0, 0, 0, 0, 0, 0, 0, 0, 0, 0, 0, 0, 0, 0, 0, 0, 0, 0,
  0, 0, 0, 0, 0, 0, 0, 0, 0, 0, 0, 0, 0, 0, 0, 0, 0, 0, 0, 0, 0, 0, 0, 0, 0, 0, 0, 0, 0, 0, 0, 0, 0, 20, 92, 248, 508, 1016, 2042, 4090, 8184, 16380, 32764, 65534, 131068,
  262136, 524272, 1048550, 0, 0, 0, 0, 0, 0, 0, 0, 0, 0, 0, 0, 0, 0, 0, 10, 26, 32, 6, 0, 5, 3, 2, 6, 2, 3, 0, 0, 0, 3] (((↑(usZ 20 j2) : Int) = (↑(usZ 20 j) : Int)) /\ (E1
  [0, 0, 0, 0, 0, 0, 0, 0, 0, 0, 0, 0, 0, 0, 0, 0, 10, 36, 68, 74, 74, 79, 82, 84, 90, 92, 95, 95, 95, 95, 98, 0, 0, 0, 0, 0, 0, 0, 0, 0, 0] ((0 = 0) /\ ((List.length (syZ
  20 j2) = List.length (syZ 20 j)) /\ ((Eq (α := List Value) (nC (syZ 20 j2)) (nC (syZ 20 j))) /\ ((Plain (nC (syZ 20 j2))) /\ True))))))))))))))))) (∃ y : Unit, ((True) /\
  ((0 = 0) /\ ((0 = 0) /\ (((1048558 : Int) = (1048550 : Int) + (↑(usZ 20 j) : Int)) /\ (E1 [20, 0, 0, 0, 0, 0, 0, 0, 0, 0, 0, 0, 0, 0, 0, 0, 0, 0, 0, 0, 0, 0, 0, 0, 0, 0,
  0, 0, 0, 0, 0, 0, 0, 0, 0, 0, 0, 0, 0, 0, 0, 0, 0, 0, 0, 0, 0, 0, 0, 0, 0, 0, 0, 0, 0, 0, 0, 0, 0, 0, 0, 0, 0, 0, 0, 0, 0, 0, 0, 0, 0, 0, 0, 0, 0, 0, 0, 0, 0, 0, 0, 0, 0,
  0, 0, 0, 0, 0, 0, 0, 0, 0, 0, 0, 0, 0, 0, 0, 0, 0, 20, 92, 248, 508, 1016, 2042, 4090, 8184, 16380, 32764, 65534, 131068, 262136, 524272, 1048550, 0, 0, 0, 0, 0, 0, 0, 0,
  0, 0, 0, 0, 0, 0, 0, 10, 26, 32, 6, 0, 5, 3, 2, 6, 2, 3, 0, 0, 0, 3] (((8 : Int) = (↑(usZ 20 j) : Int)) /\ (E1 [0, 0, 0, 0, 0, 0, 0, 0, 0, 0, 0, 0, 0, 0, 0, 0, 10, 36, 68,
  74, 74, 79, 82, 84, 90, 92, 95, 95, 95, 95, 98, 0, 0, 0, 0, 0, 0, 0, 0, 0, 0] ((0 = 0) /\ ((106 = List.length (syZ 20 j)) /\ ((Eq (α := List Value) (nC (syZ (20 + 1) 0))
  (nC (syZ 20 j))) /\ ((Plain (nC (syZ (20 + 1) 0))) /\ True))))))))))))) := by kernel_rfl
theorem M21_round (j : Nat) (Inv : Nat → Prop) (m : Nat → Nat) : mev EtM noM 60 27 (0 :: pMi) false (codeOf Try.prog 27 (0 :: pMi)) ⟨mkOv (slM 21 j), 45, []⟩ none ⟨mkR (rlM 21 j), 3⟩ (roundK 0 3 45 Inv m (slM 21) (rlM 21) (wsM 21) j) =
  (br (decide ((↑j : Int) <= (256 : Int))) ((((True /\ True) /\ (True /\ (True /\ True)))) /\ (br (hLenI (↑j : Int) == (21 : Int)) (br (decide (List.length (syZ 21 j) + 1 <=
  16777216)) (br (decide (0 + List.length (syZ 21 j) * 1 <= List.length (nC (syZ 21 j)))) ((Eq (α := Option Value) (some (Value.int IntKind.i64 (↑(usZ 21 j) : Int))) (some
  (Value.int IntKind.i64 (cellI (lsK 21 j (usZ 21 j : Nat) (List.length (syZ 21 j) + 1)) 52)))) /\ (∃ j2 : Nat, ((Inv j2) /\ ((m j2 < m j) /\ ((0 = 0) /\ ((0 = 0) /\
  (((2097116 : Int) + (↑(usZ 21 j2) : Int) = IntKind.wrap IntKind.i64 ((2097116 : Int) + (↑(usZ 21 j) : Int) + (1 : Int))) /\ ((E0 21) /\ (((↑j2 : Int) = IntKind.wrap
  IntKind.i64 ((↑j : Int) + (1 : Int))) /\ (E1 [0, 0, 0, 0, 0, 0, 0, 0, 0, 0, 0, 0, 0, 0, 0, 0, 0, 0, 0, 0, 0, 0, 0, 0, 0, 0, 0, 0, 0, 0, 0, 0, 0, 0, 0, 0, 0, 0, 0, 0, 0, 0,
  0, 0, 0, 0, 0, 0, 0, 0, 0, 0, 0, 0, 0, 0, 0, 0, 0, 0, 0, 0, 0, 0, 0, 0, 0, 0, 0, 0, 0, 0, 0, 0, 0, 0, 0, 0, 0, 0, 0, 0, 0, 0, 0, 0, 0, 0, 0, 0, 0, 0, 0, 0, 0, 0, 0, 0, 0,
  20, 92, 248, 508, 1016, 2042, 4090, 8184, 16380, 32764, 65534, 131068, 262136, 524272, 1048550, 2097116, 0, 0, 0, 0, 0, 0, 0, 0, 0, 0, 0, 0, 0, 0, 10, 26, 32, 6, 0, 5, 3,
  2, 6, 2, 3, 0, 0, 0, 3, 8] (((↑(usZ 21 j2) : Int) = IntKind.wrap IntKind.i64 (cellI (lsK 21 j (usZ 21 j : Nat) (List.length (syZ 21 j) + 1)) 52 + (1 : Int))) /\ (E1 [0, 0,
  0, 0, 0, 0, 0, 0, 0, 0, 0, 0, 0, 0, 0, 10, 36, 68, 74, 74, 79, 82, 84, 90, 92, 95, 95, 95, 95, 98, 106, 0, 0, 0, 0, 0, 0, 0, 0, 0] ((0 = 0) /\ ((List.length (syZ 21 j2) =
  List.length (syZ 21 j) + 1) /\ ((Eq (α := List Value) (nC (syZ 21 j2)) (List.take (List.length (syZ 21 j) * 1) (List.drop 0 (nC (syZ 21 j))) ++ [Value.int IntKind.i64 (↑j
  : Int)])) /\ ((Plain (nC (syZ 21 j2))) /\ True)))))))))))))))) False) False) (∃ j2 : Nat, ((Inv j2) /\ ((m j2 < m j) /\ ((0 = 0) /\ ((0 = 0) /\ (((2097116 : Int) + (↑(usZ
  21 j2) : Int) = (2097116 : Int) + (↑(usZ 21 j) : Int)) /\ ((E0 21) /\ (((↑j2 : Int) = IntKind.wrap IntKind.i64 ((↑j : Int) + (1 : Int))) /\ (E1 [0, 0, 0, 0, 0, 0, 0, 0, 0,
  0, 0, 0, 0, 0, 0, 0, 0, 0, 0, 0, 0, 0, 0, 0, 0, 0, 0, 0, 0, 0, 0, 0, 0, 0, 0, 0, 0, 0, 0, 0, 0, 0, 0, 0, 0, 0, 0, 0, 0, 0, 0, 0, 0, 0, 0, 0, 0, 0, 0, 0, 0, 0, 0, 0, 0, 0,
  0, 0, 0, 0, 0, 0, 0, 0, 0, 0, 0, 0, 0, 0, 0, 0, 0, 0, 0, 0, 0, 0, 0, 0, 0, 0, 0, 0, 0, 0, 0, 0, 0, 20, 92, 248, 508, 1016, 2042, 4090, 8184, 16380, 32764, 65534, 131068,
  262136, 524272, 1048550, 2097116, 0, 0, 0, 0, 0, 0, 0, 0, 0, 0, 0, 0, 0, 0, 10, 26, 32, 6, 0, 5, 3, 2, 6, 2, 3, 0, 0, 0, 3, 8] (((↑(usZ 21 j2) : Int) = (↑(usZ 21 j) :
  Int)) /\ (E1 [0, 0, 0, 0, 0, 0, 0, 0, 0, 0, 0, 0, 0, 0, 0, 10, 36, 68, 74, 74, 79, 82, 84, 90, 92, 95, 95, 95, 95, 98, 106, 0, 0, 0, 0, 0, 0, 0, 0, 0] ((0 = 0) /\
  ((List.length (syZ 21 j2) = List.length (syZ 21 j)) /\ ((Eq (α := List Value) (nC (syZ 21 j2)) (nC (syZ 21 j))) /\ ((Plain (nC (syZ 21 j2))) /\ True))))))))))))))))) (∃ y
  : Unit, ((True) /\ ((0 = 0) /\ ((0 = 0) /\ (((2097129 : Int) = (2097116 : Int) + (↑(usZ 21 j) : Int)) /\ (E1 [21, 0, 0, 0, 0, 0, 0, 0, 0, 0, 0, 0, 0, 0, 0, 0, 0, 0, 0, 0,
  0, 0, 0, 0, 0, 0, 0, 0, 0, 0, 0, 0, 0, 0, 0, 0, 0, 0, 0, 0, 0, 0, 0, 0, 0, 0, 0, 0, 0, 0, 0, 0, 0, 0, 0, 0, 0, 0, 0, 0, 0, 0, 0, 0, 0, 0, 0, 0, 0, 0, 0, 0, 0, 0, 0, 0, 0,
  0, 0, 0, 0, 0, 0, 0, 0, 0, 0, 0, 0, 0, 0, 0, 0, 0, 0, 0, 0, 0, 0, 0, 20, 92, 248, 508, 1016, 2042, 4090, 8184, 16380, 32764, 65534, 131068, 262136, 524272, 1048550,
  2097116, 0, 0, 0, 0, 0, 0, 0, 0, 0, 0, 0, 0, 0, 0, 10, 26, 32, 6, 0, 5, 3, 2, 6, 2, 3, 0, 0, 0, 3, 8] (((13 : Int) = (↑(usZ 21 j) : Int)) /\ (E1 [0, 0, 0, 0, 0, 0, 0, 0,
  0, 0, 0, 0, 0, 0, 0, 10, 36, 68, 74, 74, 79, 82, 84, 90, 92, 95, 95, 95, 95, 98, 106, 0, 0, 0, 0, 0, 0, 0, 0, 0] ((0 = 0) /\ ((119 = List.length (syZ 21 j)) /\ ((Eq (α :=
  List Value) (nC (syZ (21 + 1) 0)) (nC (syZ 21 j))) /\ ((Plain (nC (syZ (21 + 1) 0))) /\ True))))))))))))) := by kernel_rfl
theorem M22_round (j : Nat) (Inv : Nat → Prop) (m : Nat → Nat) : mev EtM noM 60 27 (0 :: pMi) false (codeOf Try.prog 27 (0 :: pMi)) ⟨mkOv (slM 22 j), 45, []⟩ none ⟨mkR (rlM 22 j), 3⟩ (roundK 0 3 45 Inv m (slM 22) (rlM 22) (wsM 22) j) =
  (br (decide ((↑j : Int) <= (256 : Int))) ((((True /\ True) /\ (True /\ (True /\ True)))) /\ (br (hLenI (↑j : Int) == (22 : Int)) (br (decide (List.length (syZ 22 j) + 1 <=
  16777216)) (br (decide (0 + List.length (syZ 22 j) * 1 <= List.length (nC (syZ 22 j)))) ((Eq (α := Option Value) (some (Value.int IntKind.i64 (↑(usZ 22 j) : Int))) (some
  (Value.int IntKind.i64 (cellI (lsK 22 j (usZ 22 j : Nat) (List.length (syZ 22 j) + 1)) 53)))) /\ (∃ j2 : Nat, ((Inv j2) /\ ((m j2 < m j) /\ ((0 = 0) /\ ((0 = 0) /\
  (((4194258 : Int) + (↑(usZ 22 j2) : Int) = IntKind.wrap IntKind.i64 ((4194258 : Int) + (↑(usZ 22 j) : Int) + (1 : Int))) /\ ((E0 22) /\ (((↑j2 : Int) = IntKind.wrap
  IntKind.i64 ((↑j : Int) + (1 : Int))) /\ (E1 [0, 0, 0, 0, 0, 0, 0, 0, 0, 0, 0, 0, 0, 0, 0, 0, 0, 0, 0, 0, 0, 0, 0, 0, 0, 0, 0, 0, 0, 0, 0, 0, 0, 0, 0, 0, 0, 0, 0, 0, 0, 0,
  0, 0, 0, 0, 0, 0, 0, 0, 0, 0, 0, 0, 0, 0, 0, 0, 0, 0, 0, 0, 0, 0, 0, 0, 0, 0, 0, 0, 0, 0, 0, 0, 0, 0, 0, 0, 0, 0, 0, 0, 0, 0, 0, 0, 0, 0, 0, 0, 0, 0, 0, 0, 0, 0, 0, 0, 0,
  20, 92, 248, 508, 1016, 2042, 4090, 8184, 16380, 32764, 65534, 131068, 262136, 524272, 1048550, 2097116, 4194258, 0, 0, 0, 0, 0, 0, 0, 0, 0, 0, 0, 0, 0, 10, 26, 32, 6, 0,
  5, 3, 2, 6, 2, 3, 0, 0, 0, 3, 8, 13] (((↑(usZ 22 j2) : Int) = IntKind.wrap IntKind.i64 (cellI (lsK 22 j (usZ 22 j : Nat) (List.length (syZ 22 j) + 1)) 53 + (1 : Int))) /\
  (E1 [0, 0, 0, 0, 0, 0, 0, 0, 0, 0, 0, 0, 0, 0, 10, 36, 68, 74, 74, 79, 82, 84, 90, 92, 95, 95, 95, 95, 98, 106, 119, 0, 0, 0, 0, 0, 0, 0, 0] ((0 = 0) /\ ((List.length (syZ
  22 j2) = List.length (syZ 22 j) + 1) /\ ((Eq (α := List Value) (nC (syZ 22 j2)) (List.take (List.length (syZ 22 j) * 1) (List.drop 0 (nC (syZ 22 j))) ++ [Value.int
  IntKind.i64 (↑j : Int)])) /\ ((Plain (nC (syZ 22 j2))) /\ True)))))))))))))))) False) False) (∃ j2 : Nat, ((Inv j2) /\ ((m j2 < m j) /\ ((0 = 0) /\ ((0 = 0) /\ (((4194258
  : Int) + (↑(usZ 22 j2) : Int) = (4194258 : Int) + (↑(usZ 22 j) : Int)) /\ ((E0 22) /\ (((↑j2 : Int) = IntKind.wrap IntKind.i64 ((↑j : Int) + (1 : Int))) /\ (E1 [0, 0, 0,
  0, 0, 0, 0, 0, 0, 0, 0, 0, 0, 0, 0, 0, 0, 0, 0, 0, 0, 0, 0, 0, 0, 0, 0, 0, 0, 0, 0, 0, 0, 0, 0, 0, 0, 0, 0, 0, 0, 0, 0, 0, 0, 0, 0, 0, 0, 0, 0, 0, 0, 0, 0, 0, 0, 0, 0, 0,
  0, 0, 0, 0, 0, 0, 0, 0, 0, 0, 0, 0, 0, 0, 0, 0, 0, 0, 0, 0, 0, 0, 0, 0, 0, 0, 0, 0, 0, 0, 0, 0, 0, 0, 0, 0, 0, 0, 0, 20, 92, 248, 508, 1016, 2042, 4090, 8184, 16380,
  32764, 65534, 131068, 262136, 524272, 1048550, 2097116, 4194258, 0, 0, 0, 0, 0, 0, 0, 0, 0, 0, 0, 0, 0, 10, 26, 32, 6, 0, 5, 3, 2, 6, 2, 3, 0, 0, 0, 3, 8, 13] (((↑(usZ 22
  j2) : Int) = (↑(usZ 22 j) : Int)) /\ (E1 [0, 0, 0, 0, 0, 0, 0, 0, 0, 0, 0, 0, 0, 0, 10, 36, 68, 74, 74, 79, 82, 84, 90, 92, 95, 95, 95, 95, 98, 106, 119, 0, 0, 0, 0, 0, 0,
  0, 0] ((0 = 0) /\ ((List.length (syZ 22 j2) = List.length (syZ 22 j)) /\ ((Eq (α := List Value) (nC (syZ 22 j2)) (nC (syZ 22 j))) /\ ((Plain (nC (syZ 22 j2))) /\
  True))))))))))))))))) (∃ y : Unit, ((True) /\ ((0 = 0) /\ ((0 = 0) /\ (((4194284 : Int) = (4194258 : Int) + (↑(usZ 22 j) : Int)) /\ (E1 [22, 0, 0, 0, 0, 0, 0, 0, 0, 0, 0,
  0, 0, 0, 0, 0, 0, 0, 0, 0, 0, 0, 0, 0, 0, 0, 0, 0, 0, 0, 0, 0, 0, 0, 0, 0, 0, 0, 0, 0, 0, 0, 0, 0, 0, 0, 0, 0, 0, 0, 0, 0, 0, 0, 0, 0, 0, 0, 0, 0, 0, 0, 0, 0, 0, 0, 0, 0,
  0, 0, 0, 0, 0, 0, 0, 0, 0, 0, 0, 0, 0, 0, 0, 0, 0, 0, 0, 0, 0, 0, 0, 0, 0, 0, 0, 0, 0, 0, 0, 0, 20, 92, 248, 508, 1016, 2042, 4090, 8184, 16380, 32764, 65534, 131068,
  262136, 524272, 1048550, 2097116, 4194258, 0, 0, 0, 0, 0, 0, 0, 0, 0, 0, 0, 0, 0, 10, 26, 32, 6, 0, 5, 3, 2, 6, 2, 3, 0, 0, 0, 3, 8, 13] (((26 : Int) = (↑(usZ 22 j) :
  Int)) /\ (E1 [0, 0, 0, 0, 0, 0, 0, 0, 0, 0, 0, 0, 0, 0, 10, 36, 68, 74, 74, 79, 82, 84, 90, 92, 95, 95, 95, 95, 98, 106, 119, 0, 0, 0, 0, 0, 0, 0, 0] ((0 = 0) /\ ((145 =
  List.length (syZ 22 j)) /\ ((Eq (α := List Value) (nC (syZ (22 + 1) 0)) (nC (syZ 22 j))) /\ ((Plain (nC (syZ (22 + 1) 0))) /\ True))))))))))))) := by kernel_rfl
theorem M23_round (j : Nat) (Inv : Nat → Prop) (m : Nat → Nat) : mev EtM noM 60 27 (0 :: pMi) false (codeOf Try.prog 27 (0 :: pMi)) ⟨mkOv (slM 23 j), 45, []⟩ none ⟨mkR (rlM 23 j), 3⟩ (roundK 0 3 45 Inv m (slM 23) (rlM 23) (wsM 23) j) =
  (br (decide ((↑j : Int) <= (256 : Int))) ((((True /\ True) /\ (True /\ (True /\ True)))) /\ (br (hLenI (↑j : Int) == (23 : Int)) (br (decide (List.length (syZ 23 j) + 1 <=
  16777216)) (br (decide (0 + List.length (syZ 23 j) * 1 <= List.length (nC (syZ 23 j)))) ((Eq (α := Option Value) (some (Value.int IntKind.i64 (↑(usZ 23 j) : Int))) (some
  (Value.int IntKind.i64 (cellI (lsK 23 j (usZ 23 j : Nat) (List.length (syZ 23 j) + 1)) 54)))) /\ (∃ j2 : Nat, ((Inv j2) /\ ((m j2 < m j) /\ ((0 = 0) /\ ((0 = 0) /\
  (((8388568 : Int) + (↑(usZ 23 j2) : Int) = IntKind.wrap IntKind.i64 ((8388568 : Int) + (↑(usZ 23 j) : Int) + (1 : Int))) /\ ((E0 23) /\ (((↑j2 : Int) = IntKind.wrap
  IntKind.i64 ((↑j : Int) + (1 : Int))) /\ (E1 [0, 0, 0, 0, 0, 0, 0, 0, 0, 0, 0, 0, 0, 0, 0, 0, 0, 0, 0, 0, 0, 0, 0, 0, 0, 0, 0, 0, 0, 0, 0, 0, 0, 0, 0, 0, 0, 0, 0, 0, 0, 0,
  0, 0, 0, 0, 0, 0, 0, 0, 0, 0, 0, 0, 0, 0, 0, 0, 0, 0, 0, 0, 0, 0, 0, 0, 0, 0, 0, 0, 0, 0, 0, 0, 0, 0, 0, 0, 0, 0, 0, 0, 0, 0, 0, 0, 0, 0, 0, 0, 0, 0, 0, 0, 0, 0, 0, 0, 0,
  20, 92, 248, 508, 1016, 2042, 4090, 8184, 16380, 32764, 65534, 131068, 262136, 524272, 1048550, 2097116, 4194258, 8388568, 0, 0, 0, 0, 0, 0, 0, 0, 0, 0, 0, 0, 10, 26, 32,
  6, 0, 5, 3, 2, 6, 2, 3, 0, 0, 0, 3, 8, 13, 26] (((↑(usZ 23 j2) : Int) = IntKind.wrap IntKind.i64 (cellI (lsK 23 j (usZ 23 j : Nat) (List.length (syZ 23 j) + 1)) 54 + (1 :
  Int))) /\ (E1 [0, 0, 0, 0, 0, 0, 0, 0, 0, 0, 0, 0, 0, 10, 36, 68, 74, 74, 79, 82, 84, 90, 92, 95, 95, 95, 95, 98, 106, 119, 145, 0, 0, 0, 0, 0, 0, 0] ((0 = 0) /\
  ((List.length (syZ 23 j2) = List.length (syZ 23 j) + 1) /\ ((Eq (α := List Value) (nC (syZ 23 j2)) (List.take (List.length (syZ 23 j) * 1) (List.drop 0 (nC (syZ 23 j))) ++
  [Value.int IntKind.i64 (↑j : Int)])) /\ ((Plain (nC (syZ 23 j2))) /\ True)))))))))))))))) False) False) (∃ j2 : Nat, ((Inv j2) /\ ((m j2 < m j) /\ ((0 = 0) /\ ((0 = 0) /\
  (((8388568 : Int) + (↑(usZ 23 j2) : Int) = (8388568 : Int) + (↑(usZ 23 j) : Int)) /\ ((E0 23) /\ (((↑j2 : Int) = IntKind.wrap IntKind.i64 ((↑j : Int) + (1 : Int))) /\ (E1
  [0, 0, 0, 0, 0, 0, 0, 0, 0, 0, 0, 0, 0, 0, 0, 0, 0, 0, 0, 0, 0, 0, 0, 0, 0, 0, 0, 0, 0, 0, 0, 0, 0, 0, 0, 0, 0, 0, 0, 0, 0, 0, 0, 0, 0, 0, 0, 0, 0, 0, 0, 0, 0, 0, 0, 0, 0,
  0, 0, 0, 0, 0, 0, 0, 0, 0, 0, 0, 0, 0, 0, 0, 0, 0, 0, 0, 0, 0, 0, 0, 0, 0, 0, 0, 0, 0, 0, 0, 0, 0, 0, 0, 0, 0, 0, 0, 0, 0, 0, 20, 92, 248, 508, 1016, 2042, 4090, 8184,
  16380, 32764, 65534, 131068, 262136, 524272, 1048550, 2097116, 4194258, 8388568, 0, 0, 0, 0, 0, 0, 0, 0, 0, 0, 0, 0, 10, 26, 32, 6, 0, 5, 3, 2, 6, 2, 3, 0, 0, 0, 3, 8, 13,
  26] (((↑(usZ 23 j2) : Int) = (↑(usZ 23 j) : Int)) /\ (E1 [0, 0, 0, 0, 0, 0, 0, 0, 0, 0, 0, 0, 0, 10, 36, 68, 74, 74, 79, 82, 84, 90, 92, 95, 95, 95, 95, 98, 106, 119, 145,
  0, 0, 0, 0, 0, 0, 0] ((0 = 0) /\ ((List.length (syZ 23 j2) = List.length (syZ 23 j)) /\ ((Eq (α := List Value) (nC (syZ 23 j2)) (nC (syZ 23 j))) /\ ((Plain (nC (syZ 23
  j2))) /\ True))))))))))))))))) (∃ y : Unit, ((True) /\ ((0 = 0) /\ ((0 = 0) /\ (((8388597 : Int) = (8388568 : Int) + (↑(usZ 23 j) : Int)) /\ (E1 [23, 0, 0, 0, 0, 0, 0, 0,
  0, 0, 0, 0, 0, 0, 0, 0, 0, 0, 0, 0, 0, 0, 0, 0, 0, 0, 0, 0, 0, 0, 0, 0, 0, 0, 0, 0, 0, 0, 0, 0, 0, 0, 0, 0, 0, 0, 0, 0, 0, 0, 0, 0, 0, 0, 0, 0, 0, 0, 0, 0, 0, 0, 0, 0, 0,
  0, 0, 0, 0, 0, 0, 0, 0, 0, 0, 0, 0, 0, 0, 0, 0, 0, 0, 0, 0, 0, 0, 0, 0, 0, 0, 0, 0, 0, 0, 0, 0, 0, 0, 0, 20, 92, 248, 508, 1016, 2042, 4090, 8184, 16380, 32764, 65534,
  131068, 262136, 524272, 1048550, 2097116, 4194258, 8388568, 0, 0, 0, 0, 0, 0, 0, 0, 0, 0, 0, 0, 10, 26, 32, 6, 0, 5, 3, 2, 6, 2, 3, 0, 0, 0, 3, 8, 13, 26] (((29 : Int) =
  (↑(usZ 23 j) : Int)) /\ (E1 [0, 0, 0, 0, 0, 0, 0, 0, 0, 0, 0, 0, 0, 10, 36, 68, 74, 74, 79, 82, 84, 90, 92, 95, 95, 95, 95, 98, 106, 119, 145, 0, 0, 0, 0, 0, 0, 0] ((0 =
  0) /\ ((174 = List.length (syZ 23 j)) /\ ((Eq (α := List Value) (nC (syZ (23 + 1) 0)) (nC (syZ 23 j))) /\ ((Plain (nC (syZ (23 + 1) 0))) /\ True))))))))))))) := by kernel_rfl
theorem M24_round (j : Nat) (Inv : Nat → Prop) (m : Nat → Nat) : mev EtM noM 60 27 (0 :: pMi) false (codeOf Try.prog 27 (0 :: pMi)) ⟨mkOv (slM 24 j), 45, []⟩ none ⟨mkR (rlM 24 j), 3⟩ (roundK 0 3 45 Inv m (slM 24) (rlM 24) (wsM 24) j) =
  (br (decide ((↑j : Int) <= (256 : Int))) ((((True /\ True) /\ (True /\ (True /\ True)))) /\ (br (hLenI (↑j : Int) == (24 : Int)) (br (decide (List.length (syZ 24 j) + 1 <=
  16777216)) (br (decide (0 + List.length (syZ 24 j) * 1 <= List.length (nC (syZ 24 j)))) ((Eq (α := Option Value) (some (Value.int IntKind.i64 (↑(usZ 24 j) : Int))) (some
  (Value.int IntKind.i64 (cellI (lsK 24 j (usZ 24 j : Nat) (List.length (syZ 24 j) + 1)) 55)))) /\ (∃ j2 : Nat, ((Inv j2) /\ ((m j2 < m j) /\ ((0 = 0) /\ ((0 = 0) /\
  (((16777194 : Int) + (↑(usZ 24 j2) : Int) = IntKind.wrap IntKind.i64 ((16777194 : Int) + (↑(usZ 24 j) : Int) + (1 : Int))) /\ ((E0 24) /\ (((↑j2 : Int) = IntKind.wrap
  IntKind.i64 ((↑j : Int) + (1 : Int))) /\ (E1 [0, 0, 0, 0, 0, 0, 0, 0, 0, 0, 0, 0, 0, 0, 0, 0, 0, 0, 0, 0, 0, 0, 0, 0, 0, 0, 0, 0, 0, 0, 0, 0, 0, 0, 0, 0, 0, 0, 0, 0, 0, 0,
  0, 0, 0, 0, 0, 0, 0, 0, 0, 0, 0, 0, 0, 0, 0, 0, 0, 0, 0, 0, 0, 0, 0, 0, 0, 0, 0, 0, 0, 0, 0, 0, 0, 0, 0, 0, 0, 0, 0, 0, 0, 0, 0, 0, 0, 0, 0, 0, 0, 0, 0, 0, 0, 0, 0, 0, 0,
  20, 92, 248, 508, 1016, 2042, 4090, 8184, 16380, 32764, 65534, 131068, 262136, 524272, 1048550, 2097116, 4194258, 8388568, 16777194, 0, 0, 0, 0, 0, 0, 0, 0, 0, 0, 0, 10,
  26, 32, 6, 0, 5, 3, 2, 6, 2, 3, 0, 0, 0, 3, 8, 13, 26, 29] (((↑(usZ 24 j2) : Int) = IntKind.wrap IntKind.i64 (cellI (lsK 24 j (usZ 24 j : Nat) (List.length (syZ 24 j) +
  1)) 55 + (1 : Int))) /\ (E1 [0, 0, 0, 0, 0, 0, 0, 0, 0, 0, 0, 0, 10, 36, 68, 74, 74, 79, 82, 84, 90, 92, 95, 95, 95, 95, 98, 106, 119, 145, 174, 0, 0, 0, 0, 0, 0] ((0 = 0)
  /\ ((List.length (syZ 24 j2) = List.length (syZ 24 j) + 1) /\ ((Eq (α := List Value) (nC (syZ 24 j2)) (List.take (List.length (syZ 24 j) * 1) (List.drop 0 (nC (syZ 24 j)))
  ++ [Value.int IntKind.i64 (↑j : Int)])) /\ ((Plain (nC (syZ 24 j2))) /\ True)))))))))))))))) False) False) (∃ j2 : Nat, ((Inv j2) /\ ((m j2 < m j) /\ ((0 = 0) /\ ((0 = 0)
  /\ (((16777194 : Int) + (↑(usZ 24 j2) : Int) = (16777194 : Int) + (↑(usZ 24 j) : Int)) /\ ((E0 24) /\ (((↑j2 : Int) = IntKind.wrap IntKind.i64 ((↑j : Int) + (1 : Int))) /\
  (E1 [0, 0, 0, 0, 0, 0, 0, 0, 0, 0, 0, 0, 0, 0, 0, 0, 0, 0, 0, 0, 0, 0, 0, 0, 0, 0, 0, 0, 0, 0, 0, 0, 0, 0, 0, 0, 0, 0, 0, 0, 0, 0, 0, 0, 0, 0, 0, 0, 0, 0, 0, 0, 0, 0, 0,
  0, 0, 0, 0, 0, 0, 0, 0, 0, 0, 0, 0, 0, 0, 0, 0, 0, 0, 0, 0, 0, 0, 0, 0, 0, 0, 0, 0, 0, 0, 0, 0, 0, 0, 0, 0, 0, 0, 0, 0, 0, 0, 0, 0, 20, 92, 248, 508, 1016, 2042, 4090,
  8184, 16380, 32764, 65534, 131068, 262136, 524272, 1048550, 2097116, 4194258, 8388568, 16777194, 0, 0, 0, 0, 0, 0, 0, 0, 0, 0, 0, 10, 26, 32, 6, 0, 5, 3, 2, 6, 2, 3, 0, 0,
  0, 3, 8, 13, 26, 29] (((↑(usZ 24 j2) : Int) = (↑(usZ 24 j) : Int)) /\ (E1 [0, 0, 0, 0, 0, 0, 0, 0, 0, 0, 0, 0, 10, 36, 68, 74, 74, 79, 82, 84, 90, 92, 95, 95, 95, 95, 98,
  106, 119, 145, 174, 0, 0, 0, 0, 0, 0] ((0 = 0) /\ ((List.length (syZ 24 j2) = List.length (syZ 24 j)) /\ ((Eq (α := List Value) (nC (syZ 24 j2)) (nC (syZ 24 j))) /\
  ((Plain (nC (syZ 24 j2))) /\ True))))))))))))))))) (∃ y : Unit, ((True) /\ ((0 = 0) /\ ((0 = 0) /\ (((16777206 : Int) = (16777194 : Int) + (↑(usZ 24 j) : Int)) /\ (E1 [24,
  0, 0, 0, 0, 0, 0, 0, 0, 0, 0, 0, 0, 0, 0, 0, 0, 0, 0, 0, 0, 0, 0, 0, 0, 0, 0, 0, 0, 0, 0, 0, 0, 0, 0, 0, 0, 0, 0, 0, 0, 0, 0, 0, 0, 0, 0, 0, 0, 0, 0, 0, 0, 0, 0, 0, 0, 0,
  0, 0, 0, 0, 0, 0, 0, 0, 0, 0, 0, 0, 0, 0, 0, 0, 0, 0, 0, 0, 0, 0, 0, 0, 0, 0, 0, 0, 0, 0, 0, 0, 0, 0, 0, 0, 0, 0, 0, 0, 0, 0, 20, 92, 248, 508, 1016, 2042, 4090, 8184,
  16380, 32764, 65534, 131068, 262136, 524272, 1048550, 2097116, 4194258, 8388568, 16777194, 0, 0, 0, 0, 0, 0, 0, 0, 0, 0, 0, 10, 26, 32, 6, 0, 5, 3, 2, 6, 2, 3, 0, 0, 0, 3,
  8, 13, 26, 29] (((12 : Int) = (↑(usZ 24 j) : Int)) /\ (E1 [0, 0, 0, 0, 0, 0, 0, 0, 0, 0, 0, 0, 10, 36, 68, 74, 74, 79, 82, 84, 90, 92, 95, 95, 95, 95, 98, 106, 119, 145,
  174, 0, 0, 0, 0, 0, 0] ((0 = 0) /\ ((186 = List.length (syZ 24 j)) /\ ((Eq (α := List Value) (nC (syZ (24 + 1) 0)) (nC (syZ 24 j))) /\ ((Plain (nC (syZ (24 + 1) 0))) /\
  True))))))))))))) := by kernel_rfl
theorem M25_round (j : Nat) (Inv : Nat → Prop) (m : Nat → Nat) : mev EtM noM 60 27 (0 :: pMi) false (codeOf Try.prog 27 (0 :: pMi)) ⟨mkOv (slM 25 j), 45, []⟩ none ⟨mkR (rlM 25 j), 3⟩ (roundK 0 3 45 Inv m (slM 25) (rlM 25) (wsM 25) j) =
  (br (decide ((↑j : Int) <= (256 : Int))) ((((True /\ True) /\ (True /\ (True /\ True)))) /\ (br (hLenI (↑j : Int) == (25 : Int)) (br (decide (List.length (syZ 25 j) + 1 <=
  16777216)) (br (decide (0 + List.length (syZ 25 j) * 1 <= List.length (nC (syZ 25 j)))) ((Eq (α := Option Value) (some (Value.int IntKind.i64 (↑(usZ 25 j) : Int))) (some
  (Value.int IntKind.i64 (cellI (lsK 25 j (usZ 25 j : Nat) (List.length (syZ 25 j) + 1)) 56)))) /\ (∃ j2 : Nat, ((Inv j2) /\ ((m j2 < m j) /\ ((0 = 0) /\ ((0 = 0) /\
  (((33554412 : Int) + (↑(usZ 25 j2) : Int) = IntKind.wrap IntKind.i64 ((33554412 : Int) + (↑(usZ 25 j) : Int) + (1 : Int))) /\ ((E0 25) /\ (((↑j2 : Int) = IntKind.wrap
  IntKind.i64 ((↑j : Int) + (1 : Int))) /\ (E1 [0, 0, 0, 0, 0, 0, 0, 0, 0, 0, 0, 0, 0, 0, 0, 0, 0, 0, 0, 0, 0, 0, 0, 0, 0, 0, 0, 0, 0, 0, 0, 0, 0, 0, 0, 0, 0, 0, 0, 0, 0, 0,
  0, 0, 0, 0, 0, 0, 0, 0, 0, 0, 0, 0, 0, 0, 0, 0, 0, 0, 0, 0, 0, 0, 0, 0, 0, 0, 0, 0, 0, 0, 0, 0, 0, 0, 0, 0, 0, 0, 0, 0, 0, 0, 0, 0, 0, 0, 0, 0, 0, 0, 0, 0, 0, 0, 0, 0, 0,
  20, 92, 248, 508, 1016, 2042, 4090, 8184, 16380, 32764, 65534, 131068, 262136, 524272, 1048550, 2097116, 4194258, 8388568, 16777194, 33554412, 0, 0, 0, 0, 0, 0, 0, 0, 0,
  0, 10, 26, 32, 6, 0, 5, 3, 2, 6, 2, 3, 0, 0, 0, 3, 8, 13, 26, 29, 12] (((↑(usZ 25 j2) : Int) = IntKind.wrap IntKind.i64 (cellI (lsK 25 j (usZ 25 j : Nat) (List.length (syZ
  25 j) + 1)) 56 + (1 : Int))) /\ (E1 [0, 0, 0, 0, 0, 0, 0, 0, 0, 0, 0, 10, 36, 68, 74, 74, 79, 82, 84, 90, 92, 95, 95, 95, 95, 98, 106, 119, 145, 174, 186, 0, 0, 0, 0, 0]
  ((0 = 0) /\ ((List.length (syZ 25 j2) = List.length (syZ 25 j) + 1) /\ ((Eq (α := List Value) (nC (syZ 25 j2)) (List.take (List.length (syZ 25 j) * 1) (List.drop 0 (nC
  (syZ 25 j))) ++ [Value.int IntKind.i64 (↑j : Int)])) /\ ((Plain (nC (syZ 25 j2))) /\ True)))))))))))))))) False) False) (∃ j2 : Nat, ((Inv j2) /\ ((m j2 < m j) /\ ((0 = 0)
  /\ ((0 = 0) /\ (((33554412 : Int) + (↑(usZ 25 j2) : Int) = (33554412 : Int) + (↑(usZ 25 j) : Int)) /\ ((E0 25) /\ (((↑j2 : Int) = IntKind.wrap IntKind.i64 ((↑j : Int) + (1
  : Int))) /\ (E1 [0, 0, 0, 0, 0, 0, 0, 0, 0, 0, 0, 0, 0, 0, 0, 0, 0, 0, 0, 0, 0, 0, 0, 0, 0, 0, 0, 0, 0, 0, 0, 0, 0, 0, 0, 0, 0, 0, 0, 0, 0, 0, 0, 0, 0, 0, 0, 0, 0, 0, 0,
  0, 0, 0, 0, 0, 0, 0, 0, 0, 0, 0, 0, 0, 0, 0, 0, 0, 0, 0, 0, 0, 0, 0, 0, 0, 0, 0, 0, 0, 0, 0, 0, 0, 0, 0, 0, 0, 0, 0, 0, 0, 0, 0, 0, 0, 0, 0, 0, 20, 92, 248, 508, 1016,
  2042, 4090, 8184, 16380, 32764, 65534, 131068, 262136, 524272, 1048550, 2097116, 4194258, 8388568, 16777194, 33554412, 0, 0, 0, 0, 0, 0, 0, 0, 0, 0, 10, 26, 32, 6, 0, 5,
  3, 2, 6, 2, 3, 0, 0, 0, 3, 8, 13, 26, 29, 12] (((↑(usZ 25 j2) : Int) = (↑(usZ 25 j) : Int)) /\ (E1 [0, 0, 0, 0, 0, 0, 0, 0, 0, 0, 0, 10, 36, 68, 74, 74, 79, 82, 84, 90,
  92, 95, 95, 95, 95, 98, 106, 119, 145, 174, 186, 0, 0, 0, 0, 0] ((0 = 0) /\ ((List.length (syZ 25 j2) = List.length (syZ 25 j)) /\ ((Eq (α := List Value) (nC (syZ 25 j2))
  (nC (syZ 25 j))) /\ ((Plain (nC (syZ 25 j2))) /\ True))))))))))))))))) (∃ y : Unit, ((True) /\ ((0 = 0) /\ ((0 = 0) /\ (((33554416 : Int) = (33554412 : Int) + (↑(usZ 25 j)
  : Int)) /\ (E1 [25, 0, 0, 0, 0, 0, 0, 0, 0, 0, 0, 0, 0, 0, 0, 0, 0, 0, 0, 0, 0, 0, 0, 0, 0, 0, 0, 0, 0, 0, 0, 0, 0, 0, 0, 0, 0, 0, 0, 0, 0, 0, 0, 0, 0, 0, 0, 0, 0, 0, 0,
  0, 0, 0, 0, 0, 0, 0, 0, 0, 0, 0, 0, 0, 0, 0, 0, 0, 0, 0, 0, 0, 0, 0, 0, 0, 0, 0, 0, 0, 0, 0, 0, 0, 0, 0, 0, 0, 0, 0, 0, 0, 0, 0, 0, 0, 0, 0, 0, 0, 20, 92, 248, 508, 1016,
  2042, 4090, 8184, 16380, 32764, 65534, 131068, 262136, 524272, 1048550, 2097116, 4194258, 8388568, 16777194, 33554412, 0, 0, 0, 0, 0, 0, 0, 0, 0, 0, 10, 26, 32, 6, 0, 5,
  3, 2, 6, 2, 3, 0, 0, 0, 3, 8, 13, 26, 29, 12] (((4 : Int) = (↑(usZ 25 j) : Int)) /\ (E1 [0, 0, 0, 0, 0, 0, 0, 0, 0, 0, 0, 10, 36, 68, 74, 74, 79, 82, 84, 90, 92, 95, 95,
  95, 95, 98, 106, 119, 145, 174, 186, 0, 0, 0, 0, 0] ((0 = 0) /\ ((190 = List.length (syZ 25 j)) /\ ((Eq (α := List Value) (nC (syZ (25 + 1) 0)) (nC (syZ 25 j))) /\ ((Plain
  (nC (syZ (25 + 1) 0))) /\ True))))))))))))) := by kernel_rfl
theorem M26_round (j : Nat) (Inv : Nat → Prop) (m : Nat → Nat) : mev EtM noM 60 27 (0 :: pMi) false (codeOf Try.prog 27 (0 :: pMi)) ⟨mkOv (slM 26 j), 45, []⟩ none ⟨mkR (rlM 26 j), 3⟩ (roundK 0 3 45 Inv m (slM 26) (rlM 26) (wsM 26) j) =
  (br (decide ((↑j : Int) <= (256 : Int))) ((((True /\ True) /\ (True /\ (True /\ True)))) /\ (br (hLenI (↑j : Int) == (26 : Int)) (br (decide (List.length (syZ 26 j) + 1 <=
  16777216)) (br (decide (0 + List.length (syZ 26 j) * 1 <= List.length (nC (syZ 26 j)))) ((Eq (α := Option Value) (some (Value.int IntKind.i64 (↑(usZ 26 j) : Int))) (some
  (Value.int IntKind.i64 (cellI (lsK 26 j (usZ 26 j : Nat) (List.length (syZ 26 j) + 1)) 57)))) /\ (∃ j2 : Nat, ((Inv j2) /\ ((m j2 < m j) /\ ((0 = 0) /\ ((0 = 0) /\
  (((67108832 : Int) + (↑(usZ 26 j2) : Int) = IntKind.wrap IntKind.i64 ((67108832 : Int) + (↑(usZ 26 j) : Int) + (1 : Int))) /\ ((E0 26) /\ (((↑j2 : Int) = IntKind.wrap
  IntKind.i64 ((↑j : Int) + (1 : Int))) /\ (E1 [0, 0, 0, 0, 0, 0, 0, 0, 0, 0, 0, 0, 0, 0, 0, 0, 0, 0, 0, 0, 0, 0, 0, 0, 0, 0, 0, 0, 0, 0, 0, 0, 0, 0, 0, 0, 0, 0, 0, 0, 0, 0,
  0, 0, 0, 0, 0, 0, 0, 0, 0, 0, 0, 0, 0, 0, 0, 0, 0, 0, 0, 0, 0, 0, 0, 0, 0, 0, 0, 0, 0, 0, 0, 0, 0, 0, 0, 0, 0, 0, 0, 0, 0, 0, 0, 0, 0, 0, 0, 0, 0, 0, 0, 0, 0, 0, 0, 0, 0,
  20, 92, 248, 508, 1016, 2042, 4090, 8184, 16380, 32764, 65534, 131068, 262136, 524272, 1048550, 2097116, 4194258, 8388568, 16777194, 33554412, 67108832, 0, 0, 0, 0, 0, 0,
  0, 0, 0, 10, 26, 32, 6, 0, 5, 3, 2, 6, 2, 3, 0, 0, 0, 3, 8, 13, 26, 29, 12, 4] (((↑(usZ 26 j2) : Int) = IntKind.wrap IntKind.i64 (cellI (lsK 26 j (usZ 26 j : Nat)
  (List.length (syZ 26 j) + 1)) 57 + (1 : Int))) /\ (E1 [0, 0, 0, 0, 0, 0, 0, 0, 0, 0, 10, 36, 68, 74, 74, 79, 82, 84, 90, 92, 95, 95, 95, 95, 98, 106, 119, 145, 174, 186,
  190, 0, 0, 0, 0] ((0 = 0) /\ ((List.length (syZ 26 j2) = List.length (syZ 26 j) + 1) /\ ((Eq (α := List Value) (nC (syZ 26 j2)) (List.take (List.length (syZ 26 j) * 1)
  (List.drop 0 (nC (syZ 26 j))) ++ [Value.int IntKind.i64 (↑j : Int)])) /\ ((Plain (nC (syZ 26 j2))) /\ True)))))))))))))))) False) False) (∃ j2 : Nat, ((Inv j2) /\ ((m j2 <
  m j) /\ ((0 = 0) /\ ((0 = 0) /\ (((67108832 : Int) + (↑(usZ 26 j2) : Int) = (67108832 : Int) + (↑(usZ 26 j) : Int)) /\ ((E0 26) /\ (((↑j2 : Int) = IntKind.wrap IntKind.i64
  ((↑j : Int) + (1 : Int))) /\ (E1 [0, 0, 0, 0, 0, 0, 0, 0, 0, 0, 0, 0, 0, 0, 0, 0, 0, 0, 0, 0, 0, 0, 0, 0, 0, 0, 0, 0, 0, 0, 0, 0, 0, 0, 0, 0, 0, 0, 0, 0, 0, 0, 0, 0, 0, 0,
  0, 0, 0, 0, 0, 0, 0, 0, 0, 0, 0, 0, 0, 0, 0, 0, 0, 0, 0, 0, 0, 0, 0, 0, 0, 0, 0, 0, 0, 0, 0, 0, 0, 0, 0, 0, 0, 0, 0, 0, 0, 0, 0, 0, 0, 0, 0, 0, 0, 0, 0, 0, 0, 20, 92, 248,
  508, 1016, 2042, 4090, 8184, 16380, 32764, 65534, 131068, 262136, 524272, 1048550, 2097116, 4194258, 8388568, 16777194, 33554412, 67108832, 0, 0, 0, 0, 0, 0, 0, 0, 0, 10,
  26, 32, 6, 0, 5, 3, 2, 6, 2, 3, 0, 0, 0, 3, 8, 13, 26, 29, 12, 4] (((↑(usZ 26 j2) : Int) = (↑(usZ 26 j) : Int)) /\ (E1 [0, 0, 0, 0, 0, 0, 0, 0, 0, 0, 10, 36, 68, 74, 74,
  79, 82, 84, 90, 92, 95, 95, 95, 95, 98, 106, 119, 145, 174, 186, 190, 0, 0, 0, 0] ((0 = 0) /\ ((List.length (syZ 26 j2) = List.length (syZ 26 j)) /\ ((Eq (α := List Value)
  (nC (syZ 26 j2)) (nC (syZ 26 j))) /\ ((Plain (nC (syZ 26 j2))) /\ True))))))))))))))))) (∃ y : Unit, ((True) /\ ((0 = 0) /\ ((0 = 0) /\ (((67108847 : Int) = (67108832 :
  Int) + (↑(usZ 26 j) : Int)) /\ (E1 [26, 0, 0, 0, 0, 0, 0, 0, 0, 0, 0, 0, 0, 0, 0, 0, 0, 0, 0, 0, 0, 0, 0, 0, 0, 0, 0, 0, 0, 0, 0, 0, 0, 0, 0, 0, 0, 0, 0, 0, 0, 0, 0, 0, 0,
  0, 0, 0, 0, 0, 0, 0, 0, 0, 0, 0, 0, 0, 0, 0, 0, 0, 0, 0, 0, 0, 0, 0, 0, 0, 0, 0, 0, 0, 0, 0, 0, 0, 0, 0, 0, 0, 0, 0, 0, 0, 0, 0, 0, 0, 0, 0, 0, 0, 0, 0, 0, 0, 0, 0, 20,
  92, 248, 508, 1016, 2042, 4090, 8184, 16380, 32764, 65534, 131068, 262136, 524272, 1048550, 2097116, 4194258, 8388568, 16777194, 33554412, 67108832, 0, 0, 0, 0, 0, 0, 0,
  0, 0, 10, 26, 32, 6, 0, 5, 3, 2, 6, 2, 3, 0, 0, 0, 3, 8, 13, 26, 29, 12, 4] (((15 : Int) = (↑(usZ 26 j) : Int)) /\ (E1 [0, 0, 0, 0, 0, 0, 0, 0, 0, 0, 10, 36, 68, 74, 74,
  79, 82, 84, 90, 92, 95, 95, 95, 95, 98, 106, 119, 145, 174, 186, 190, 0, 0, 0, 0] ((0 = 0) /\ ((205 = List.length (syZ 26 j)) /\ ((Eq (α := List Value) (nC (syZ (26 + 1)
  0)) (nC (syZ 26 j))) /\ ((Plain (nC (syZ (26 + 1) 0))) /\ True))))))))))))) := by kernel_rfl
theorem M27_round (j : Nat) (Inv : Nat → Prop) (m : Nat → Nat) : mev EtM noM 60 27 (0 :: pMi) false (codeOf Try.prog 27 (0 :: pMi)) ⟨mkOv (slM 27 j), 45, []⟩ none ⟨mkR (rlM 27 j), 3⟩ (roundK 0 3 45 Inv m (slM 27) (rlM 27) (wsM 27) j) =
  (br (decide ((↑j : Int) <= (256 : Int))) ((((True /\ True) /\ (True /\ (True /\ True)))) /\ (br (hLenI (↑j : Int) == (27 : Int)) (br (decide (List.length (syZ 27 j) + 1 <=
  16777216)) (br (decide (0 + List.length (syZ 27 j) * 1 <= List.length (nC (syZ 27 j)))) ((Eq (α := Option Value) (some (Value.int IntKind.i64 (↑(usZ 27 j) : Int))) (some
  (Value.int IntKind.i64 (cellI (lsK 27 j (usZ 27 j : Nat) (List.length (syZ 27 j) + 1)) 58)))) /\ (∃ j2 : Nat, ((Inv j2) /\ ((m j2 < m j) /\ ((0 = 0) /\ ((0 = 0) /\
  (((134217694 : Int) + (↑(usZ 27 j2) : Int) = IntKind.wrap IntKind.i64 ((134217694 : Int) + (↑(usZ 27 j) : Int) + (1 : Int))) /\ ((E0 27) /\ (((↑j2 : Int) = IntKind.wrap
  IntKind.i64 ((↑j : Int) + (1 : Int))) /\ (E1 [0, 0, 0, 0, 0, 0, 0, 0, 0, 0, 0, 0, 0, 0, 0, 0, 0, 0, 0, 0, 0, 0, 0, 0, 0, 0, 0, 0, 0, 0, 0, 0, 0, 0, 0, 0, 0, 0, 0, 0, 0, 0,
  0, 0, 0, 0, 0, 0, 0, 0, 0, 0, 0, 0, 0, 0, 0, 0, 0, 0, 0, 0, 0, 0, 0, 0, 0, 0, 0, 0, 0, 0, 0, 0, 0, 0, 0, 0, 0, 0, 0, 0, 0, 0, 0, 0, 0, 0, 0, 0, 0, 0, 0, 0, 0, 0, 0, 0, 0,
  20, 92, 248, 508, 1016, 2042, 4090, 8184, 16380, 32764, 65534, 131068, 262136, 524272, 1048550, 2097116, 4194258, 8388568, 16777194, 33554412, 67108832, 134217694, 0, 0,
  0, 0, 0, 0, 0, 0, 10, 26, 32, 6, 0, 5, 3, 2, 6, 2, 3, 0, 0, 0, 3, 8, 13, 26, 29, 12, 4, 15] (((↑(usZ 27 j2) : Int) = IntKind.wrap IntKind.i64 (cellI (lsK 27 j (usZ 27 j :
  Nat) (List.length (syZ 27 j) + 1)) 58 + (1 : Int))) /\ (E1 [0, 0, 0, 0, 0, 0, 0, 0, 0, 10, 36, 68, 74, 74, 79, 82, 84, 90, 92, 95, 95, 95, 95, 98, 106, 119, 145, 174, 186,
  190, 205, 0, 0, 0] ((0 = 0) /\ ((List.length (syZ 27 j2) = List.length (syZ 27 j) + 1) /\ ((Eq (α := List Value) (nC (syZ 27 j2)) (List.take (List.length (syZ 27 j) * 1)
  (List.drop 0 (nC (syZ 27 j))) ++ [Value.int IntKind.i64 (↑j : Int)])) /\ ((Plain (nC (syZ 27 j2))) /\ True)))))))))))))))) False) False) (∃ j2 : Nat, ((Inv j2) /\ ((m j2 <
  m j) /\ ((0 = 0) /\ ((0 = 0) /\ (((134217694 : Int) + (↑(usZ 27 j2) : Int) = (134217694 : Int) + (↑(usZ 27 j) : Int)) /\ ((E0 27) /\ (((↑j2 : Int) = IntKind.wrap
  IntKind.i64 ((↑j : Int) + (1 : Int))) /\ (E1 [0, 0, 0, 0, 0, 0, 0, 0, 0, 0, 0, 0, 0, 0, 0, 0, 0, 0, 0, 0, 0, 0, 0, 0, 0, 0, 0, 0, 0, 0, 0, 0, 0, 0, 0, 0, 0, 0, 0, 0, 0, 0,
  0, 0, 0, 0, 0, 0, 0, 0, 0, 0, 0, 0, 0, 0, 0, 0, 0, 0, 0, 0, 0, 0, 0, 0, 0, 0, 0, 0, 0, 0, 0, 0, 0, 0, 0, 0, 0, 0, 0, 0, 0, 0, 0, 0, 0, 0, 0, 0, 0, 0, 0, 0, 0, 0, 0, 0, 0,
  20, 92, 248, 508, 1016, 2042, 4090, 8184, 16380, 32764, 65534, 131068, 262136, 524272, 1048550, 2097116, 4194258, 8388568, 16777194, 33554412, 67108832, 134217694, 0, 0,
  0, 0, 0, 0, 0, 0, 10, 26, 32, 6, 0, 5, 3, 2, 6, 2, 3, 0, 0, 0, 3, 8, 13, 26, 29, 12, 4, 15] (((↑(usZ 27 j2) : Int) = (↑(usZ 27 j) : Int)) /\ (E1 [0, 0, 0, 0, 0, 0, 0, 0,
  0, 10, 36, 68, 74, 74, 79, 82, 84, 90, 92, 95, 95, 95, 95, 98, 106, 119, 145, 174, 186, 190, 205, 0, 0, 0] ((0 = 0) /\ ((List.length (syZ 27 j2) = List.length (syZ 27 j))
  /\ ((Eq (α := List Value) (nC (syZ 27 j2)) (nC (syZ 27 j))) /\ ((Plain (nC (syZ 27 j2))) /\ True))))))))))))))))) (∃ y : Unit, ((True) /\ ((0 = 0) /\ ((0 = 0) /\
  (((134217713 : Int) = (134217694 : Int) + (↑(usZ 27 j) : Int)) /\ (E1 [27, 0, 0, 0, 0, 0, 0, 0, 0, 0, 0, 0, 0, 0, 0, 0, 0, 0, 0, 0, 0, 0, 0, 0, 0, 0, 0, 0, 0, 0, 0, 0, 0,
  0, 0, 0, 0, 0, 0, 0, 0, 0, 0, 0, 0, 0, 0, 0, 0, 0, 0, 0, 0, 0, 0, 0, 0, 0, 0, 0, 0, 0, 0, 0, 0, 0, 0, 0, 0, 0, 0, 0, 0, 0, 0, 0, 0, 0, 0, 0, 0, 0, 0, 0, 0, 0, 0, 0, 0, 0,
  0, 0, 0, 0, 0, 0, 0, 0, 0, 0, 20, 92, 248, 508, 1016, 2042, 4090, 8184, 16380, 32764, 65534, 131068, 262136, 524272, 1048550, 2097116, 4194258, 8388568, 16777194,
  33554412, 67108832, 134217694, 0, 0, 0, 0, 0, 0, 0, 0, 10, 26, 32, 6, 0, 5, 3, 2, 6, 2, 3, 0, 0, 0, 3, 8, 13, 26, 29, 12, 4, 15] (((19 : Int) = (↑(usZ 27 j) : Int)) /\ (E1
  [0, 0, 0, 0, 0, 0, 0, 0, 0, 10, 36, 68, 74, 74, 79, 82, 84, 90, 92, 95, 95, 95, 95, 98, 106, 119, 145, 174, 186, 190, 205, 0, 0, 0] ((0 = 0) /\ ((224 = List.length (syZ 27
  j)) /\ ((Eq (α := List Value) (nC (syZ (27 + 1) 0)) (nC (syZ 27 j))) /\ ((Plain (nC (syZ (27 + 1) 0))) /\ True))))))))))))) := by kernel_rfl
theorem M28_round (j : Nat) (Inv : Nat → Prop) (m : Nat → Nat) : mev EtM noM 60 27 (0 :: pMi) false (codeOf Try.prog 27 (0 :: pMi)) ⟨mkOv (slM 28 j), 45, []⟩ none ⟨mkR (rlM 28 j), 3⟩ (roundK 0 3 45 Inv m (slM 28) (rlM 28) (wsM 28) j) =
  (br (decide ((↑j : Int) <= (256 : Int))) ((((True /\ True) /\ (True /\ (True /\ True)))) /\ (br (hLenI (↑j : Int) == (28 : Int)) (br (decide (List.length (syZ 28 j) + 1 <=
  16777216)) (br (decide (0 + List.length (syZ 28 j) * 1 <= List.length (nC (syZ 28 j)))) ((Eq (α := Option Value) (some (Value.int IntKind.i64 (↑(usZ 28 j) : Int))) (some
  (Value.int IntKind.i64 (cellI (lsK 28 j (usZ 28 j : Nat) (List.length (syZ 28 j) + 1)) 59)))) /\ (∃ j2 : Nat, ((Inv j2) /\ ((m j2 < m j) /\ ((0 = 0) /\ ((0 = 0) /\
  (((268435426 : Int) + (↑(usZ 28 j2) : Int) = IntKind.wrap IntKind.i64 ((268435426 : Int) + (↑(usZ 28 j) : Int) + (1 : Int))) /\ ((E0 28) /\ (((↑j2 : Int) = IntKind.wrap
  IntKind.i64 ((↑j : Int) + (1 : Int))) /\ (E1 [0, 0, 0, 0, 0, 0, 0, 0, 0, 0, 0, 0, 0, 0, 0, 0, 0, 0, 0, 0, 0, 0, 0, 0, 0, 0, 0, 0, 0, 0, 0, 0, 0, 0, 0, 0, 0, 0, 0, 0, 0, 0,
  0, 0, 0, 0, 0, 0, 0, 0, 0, 0, 0, 0, 0, 0, 0, 0, 0, 0, 0, 0, 0, 0, 0, 0, 0, 0, 0, 0, 0, 0, 0, 0, 0, 0, 0, 0, 0, 0, 0, 0, 0, 0, 0, 0, 0, 0, 0, 0, 0, 0, 0, 0, 0, 0, 0, 0, 0,
  20, 92, 248, 508, 1016, 2042, 4090, 8184, 16380, 32764, 65534, 131068, 262136, 524272, 1048550, 2097116, 4194258, 8388568, 16777194, 33554412, 67108832, 134217694,
  268435426, 0, 0, 0, 0, 0, 0, 0, 10, 26, 32, 6, 0, 5, 3, 2, 6, 2, 3, 0, 0, 0, 3, 8, 13, 26, 29, 12, 4, 15, 19] (((↑(usZ 28 j2) : Int) = IntKind.wrap IntKind.i64 (cellI (lsK
  28 j (usZ 28 j : Nat) (List.length (syZ 28 j) + 1)) 59 + (1 : Int))) /\ (E1 [0, 0, 0, 0, 0, 0, 0, 0, 10, 36, 68, 74, 74, 79, 82, 84, 90, 92, 95, 95, 95, 95, 98, 106, 119,
  145, 174, 186, 190, 205, 224, 0, 0] ((0 = 0) /\ ((List.length (syZ 28 j2) = List.length (syZ 28 j) + 1) /\ ((Eq (α := List Value) (nC (syZ 28 j2)) (List.take (List.length
  (syZ 28 j) * 1) (List.drop 0 (nC (syZ 28 j))) ++ [Value.int IntKind.i64 (↑j : Int)])) /\ ((Plain (nC (syZ 28 j2))) /\ True)))))))))))))))) False) False) (∃ j2 : Nat, ((Inv
  j2) /\ ((m j2 < m j) /\ ((0 = 0) /\ ((0 = 0) /\ (((268435426 : Int) + (↑(usZ 28 j2) : Int) = (268435426 : Int) + (↑(usZ 28 j) : Int)) /\ ((E0 28) /\ (((↑j2 : Int) =
  IntKind.wrap IntKind.i64 ((↑j : Int) + (1 : Int))) /\ (E1 [0, 0, 0, 0, 0, 0, 0, 0, 0, 0, 0, 0, 0, 0, 0, 0, 0, 0, 0, 0, 0, 0, 0, 0, 0, 0, 0, 0, 0, 0, 0, 0, 0, 0, 0, 0, 0,
  0, 0, 0, 0, 0, 0, 0, 0, 0, 0, 0, 0, 0, 0, 0, 0, 0, 0, 0, 0, 0, 0, 0, 0, 0, 0, 0, 0, 0, 0, 0, 0, 0, 0, 0, 0, 0, 0, 0, 0, 0, 0, 0, 0, 0, 0, 0, 0, 0, 0, 0, 0, 0, 0, 0, 0, 0,
  0, 0, 0, 0, 0, 20, 92, 248, 508, 1016, 2042, 4090, 8184, 16380, 32764, 65534, 131068, 262136, 524272, 1048550, 2097116, 4194258, 8388568, 16777194, 33554412, 67108832,
  134217694, 268435426, 0, 0, 0, 0, 0, 0, 0, 10, 26, 32, 6, 0, 5, 3, 2, 6, 2, 3, 0, 0, 0, 3, 8, 13, 26, 29, 12, 4, 15, 19] (((↑(usZ 28 j2) : Int) = (↑(usZ 28 j) : Int)) /\
  (E1 [0, 0, 0, 0, 0, 0, 0, 0, 10, 36, 68, 74, 74, 79, 82, 84, 90, 92, 95, 95, 95, 95, 98, 106, 119, 145, 174, 186, 190, 205, 224, 0, 0] ((0 = 0) /\ ((List.length (syZ 28
  j2) = List.length (syZ 28 j)) /\ ((Eq (α := List Value) (nC (syZ 28 j2)) (nC (syZ 28 j))) /\ ((Plain (nC (syZ 28 j2))) /\ True))))))))))))))))) (∃ y : Unit, ((True) /\ ((0
  = 0) /\ ((0 = 0) /\ (((268435455 : Int) = (268435426 : Int) + (↑(usZ 28 j) : Int)) /\ (E1 [28, 0, 0, 0, 0, 0, 0, 0, 0, 0, 0, 0, 0, 0, 0, 0, 0, 0, 0, 0, 0, 0, 0, 0, 0, 0,
  0, 0, 0, 0, 0, 0, 0, 0, 0, 0, 0, 0, 0, 0, 0, 0, 0, 0, 0, 0, 0, 0, 0, 0, 0, 0, 0, 0, 0, 0, 0, 0, 0, 0, 0, 0, 0, 0, 0, 0, 0, 0, 0, 0, 0, 0, 0, 0, 0, 0, 0, 0, 0, 0, 0, 0, 0,
  0, 0, 0, 0, 0, 0, 0, 0, 0, 0, 0, 0, 0, 0, 0, 0, 0, 20, 92, 248, 508, 1016, 2042, 4090, 8184, 16380, 32764, 65534, 131068, 262136, 524272, 1048550, 2097116, 4194258,
  8388568, 16777194, 33554412, 67108832, 134217694, 268435426, 0, 0, 0, 0, 0, 0, 0, 10, 26, 32, 6, 0, 5, 3, 2, 6, 2, 3, 0, 0, 0, 3, 8, 13, 26, 29, 12, 4, 15, 19] (((29 :
  Int) = (↑(usZ 28 j) : Int)) /\ (E1 [0, 0, 0, 0, 0, 0, 0, 0, 10, 36, 68, 74, 74, 79, 82, 84, 90, 92, 95, 95, 95, 95, 98, 106, 119, 145, 174, 186, 190, 205, 224, 0, 0] ((0 =
  0) /\ ((253 = List.length (syZ 28 j)) /\ ((Eq (α := List Value) (nC (syZ (28 + 1) 0)) (nC (syZ 28 j))) /\ ((Plain (nC (syZ (28 + 1) 0))) /\ True))))))))))))) := by kernel_rfl
theorem M29_round (j : Nat) (Inv : Nat → Prop) (m : Nat → Nat) : mev EtM noM 60 27 (0 :: pMi) false (codeOf Try.prog 27 (0 :: pMi)) ⟨mkOv (slM 29 j), 45, []⟩ none ⟨mkR (rlM 29 j), 3⟩ (roundK 0 3 45 Inv m (slM 29) (rlM 29) (wsM 29) j) =
  (br (decide ((↑j : Int) <= (256 : Int))) ((((True /\ True) /\ (True /\ (True /\ True)))) /\ (br (hLenI (↑j : Int) == (29 : Int)) (br (decide (List.length (syZ 29 j) + 1 <=
  16777216)) (br (decide (0 + List.length (syZ 29 j) * 1 <= List.length (nC (syZ 29 j)))) ((Eq (α := Option Value) (some (Value.int IntKind.i64 (↑(usZ 29 j) : Int))) (some
  (Value.int IntKind.i64 (cellI (lsK 29 j (usZ 29 j : Nat) (List.length (syZ 29 j) + 1)) 60)))) /\ (∃ j2 : Nat, ((Inv j2) /\ ((m j2 < m j) /\ ((0 = 0) /\ ((0 = 0) /\
  (((536870910 : Int) + (↑(usZ 29 j2) : Int) = IntKind.wrap IntKind.i64 ((536870910 : Int) + (↑(usZ 29 j) : Int) + (1 : Int))) /\ ((E0 29) /\ (((↑j2 : Int) = IntKind.wrap
  IntKind.i64 ((↑j : Int) + (1 : Int))) /\ (E1 [0, 0, 0, 0, 0, 0, 0, 0, 0, 0, 0, 0, 0, 0, 0, 0, 0, 0, 0, 0, 0, 0, 0, 0, 0, 0, 0, 0, 0, 0, 0, 0, 0, 0, 0, 0, 0, 0, 0, 0, 0, 0,
  0, 0, 0, 0, 0, 0, 0, 0, 0, 0, 0, 0, 0, 0, 0, 0, 0, 0, 0, 0, 0, 0, 0, 0, 0, 0, 0, 0, 0, 0, 0, 0, 0, 0, 0, 0, 0, 0, 0, 0, 0, 0, 0, 0, 0, 0, 0, 0, 0, 0, 0, 0, 0, 0, 0, 0, 0,
  20, 92, 248, 508, 1016, 2042, 4090, 8184, 16380, 32764, 65534, 131068, 262136, 524272, 1048550, 2097116, 4194258, 8388568, 16777194, 33554412, 67108832, 134217694,
  268435426, 536870910, 0, 0, 0, 0, 0, 0, 10, 26, 32, 6, 0, 5, 3, 2, 6, 2, 3, 0, 0, 0, 3, 8, 13, 26, 29, 12, 4, 15, 19, 29] (((↑(usZ 29 j2) : Int) = IntKind.wrap IntKind.i64
  (cellI (lsK 29 j (usZ 29 j : Nat) (List.length (syZ 29 j) + 1)) 60 + (1 : Int))) /\ (E1 [0, 0, 0, 0, 0, 0, 0, 10, 36, 68, 74, 74, 79, 82, 84, 90, 92, 95, 95, 95, 95, 98,
  106, 119, 145, 174, 186, 190, 205, 224, 253, 0] ((0 = 0) /\ ((List.length (syZ 29 j2) = List.length (syZ 29 j) + 1) /\ ((Eq (α := List Value) (nC (syZ 29 j2)) (List.take
  (List.length (syZ 29 j) * 1) (List.drop 0 (nC (syZ 29 j))) ++ [Value.int IntKind.i64 (↑j : Int)])) /\ ((Plain (nC (syZ 29 j2))) /\ True)))))))))))))))) False) False) (∃ j2
  : Nat, ((Inv j2) /\ ((m j2 < m j) /\ ((0 = 0) /\ ((0 = 0) /\ (((536870910 : Int) + (↑(usZ 29 j2) : Int) = (536870910 : Int) + (↑(usZ 29 j) : Int)) /\ ((E0 29) /\ (((↑j2 :
  Int) = IntKind.wrap IntKind.i64 ((↑j : Int) + (1 : Int))) /\ (E1 [0, 0, 0, 0, 0, 0, 0, 0, 0, 0, 0, 0, 0, 0, 0, 0, 0, 0, 0, 0, 0, 0, 0, 0, 0, 0, 0, 0, 0, 0, 0, 0, 0, 0, 0,
  0, 0, 0, 0, 0, 0, 0, 0, 0, 0, 0, 0, 0, 0, 0, 0, 0, 0, 0, 0, 0, 0, 0, 0, 0, 0, 0, 0, 0, 0, 0, 0, 0, 0, 0, 0, 0, 0, 0, 0, 0, 0, 0, 0, 0, 0, 0, 0, 0, 0, 0, 0, 0, 0, 0, 0, 0,
  0, 0, 0, 0, 0, 0, 0, 20, 92, 248, 508, 1016, 2042, 4090, 8184, 16380, 32764, 65534, 131068, 262136, 524272, 1048550, 2097116, 4194258, 8388568, 16777194, 33554412,
  67108832, 134217694, 268435426, 536870910, 0, 0, 0, 0, 0, 0, 10, 26, 32, 6, 0, 5, 3, 2, 6, 2, 3, 0, 0, 0, 3, 8, 13, 26, 29, 12, 4, 15, 19, 29] (((↑(usZ 29 j2) : Int) =
  (↑(usZ 29 j) : Int)) /\ (E1 [0, 0, 0, 0, 0, 0, 0, 10, 36, 68, 74, 74, 79, 82, 84, 90, 92, 95, 95, 95, 95, 98, 106, 119, 145, 174, 186, 190, 205, 224, 253, 0] ((0 = 0) /\
  ((List.length (syZ 29 j2) = List.length (syZ 29 j)) /\ ((Eq (α := List Value) (nC (syZ 29 j2)) (nC (syZ 29 j))) /\ ((Plain (nC (syZ 29 j2))) /\ True))))))))))))))))) (∃ y
  : Unit, ((True) /\ ((0 = 0) /\ ((0 = 0) /\ (((536870910 : Int) = (536870910 : Int) + (↑(usZ 29 j) : Int)) /\ (E1 [29, 0, 0, 0, 0, 0, 0, 0, 0, 0, 0, 0, 0, 0, 0, 0, 0, 0, 0,
  0, 0, 0, 0, 0, 0, 0, 0, 0, 0, 0, 0, 0, 0, 0, 0, 0, 0, 0, 0, 0, 0, 0, 0, 0, 0, 0, 0, 0, 0, 0, 0, 0, 0, 0, 0, 0, 0, 0, 0, 0, 0, 0, 0, 0, 0, 0, 0, 0, 0, 0, 0, 0, 0, 0, 0, 0,
  0, 0, 0, 0, 0, 0, 0, 0, 0, 0, 0, 0, 0, 0, 0, 0, 0, 0, 0, 0, 0, 0, 0, 0, 20, 92, 248, 508, 1016, 2042, 4090, 8184, 16380, 32764, 65534, 131068, 262136, 524272, 1048550,
  2097116, 4194258, 8388568, 16777194, 33554412, 67108832, 134217694, 268435426, 536870910, 0, 0, 0, 0, 0, 0, 10, 26, 32, 6, 0, 5, 3, 2, 6, 2, 3, 0, 0, 0, 3, 8, 13, 26, 29,
  12, 4, 15, 19, 29] (((0 : Int) = (↑(usZ 29 j) : Int)) /\ (E1 [0, 0, 0, 0, 0, 0, 0, 10, 36, 68, 74, 74, 79, 82, 84, 90, 92, 95, 95, 95, 95, 98, 106, 119, 145, 174, 186,
  190, 205, 224, 253, 0] ((0 = 0) /\ ((253 = List.length (syZ 29 j)) /\ ((Eq (α := List Value) (nC (syZ (29 + 1) 0)) (nC (syZ 29 j))) /\ ((Plain (nC (syZ (29 + 1) 0))) /\
  True))))))))))))) := by kernel_rfl
theorem M30_round (j : Nat) (Inv : Nat → Prop) (m : Nat → Nat) : mev EtM noM 60 27 (0 :: pMi) false (codeOf Try.prog 27 (0 :: pMi)) ⟨mkOv (slM 30 j), 45, []⟩ none ⟨mkR (rlM 30 j), 3⟩ (roundK 0 3 45 Inv m (slM 30) (rlM 30) (wsM 30) j) =
  (br (decide ((↑j : Int) <= (256 : Int))) ((((True /\ True) /\ (True /\ (True /\ True)))) /\ (br (hLenI (↑j : Int) == (30 : Int)) (br (decide (List.length (syZ 30 j) + 1 <=
  16777216)) (br (decide (0 + List.length (syZ 30 j) * 1 <= List.length (nC (syZ 30 j)))) ((Eq (α := Option Value) (some (Value.int IntKind.i64 (↑(usZ 30 j) : Int))) (some
  (Value.int IntKind.i64 (cellI (lsK 30 j (usZ 30 j : Nat) (List.length (syZ 30 j) + 1)) 61)))) /\ (∃ j2 : Nat, ((Inv j2) /\ ((m j2 < m j) /\ ((0 = 0) /\ ((0 = 0) /\
  (((1073741820 : Int) + (↑(usZ 30 j2) : Int) = IntKind.wrap IntKind.i64 ((1073741820 : Int) + (↑(usZ 30 j) : Int) + (1 : Int))) /\ ((E0 30) /\ (((↑j2 : Int) = IntKind.wrap
  IntKind.i64 ((↑j : Int) + (1 : Int))) /\ (E1 [0, 0, 0, 0, 0, 0, 0, 0, 0, 0, 0, 0, 0, 0, 0, 0, 0, 0, 0, 0, 0, 0, 0, 0, 0, 0, 0, 0, 0, 0, 0, 0, 0, 0, 0, 0, 0, 0, 0, 0, 0, 0,
  0, 0, 0, 0, 0, 0, 0, 0, 0, 0, 0, 0, 0, 0, 0, 0, 0, 0, 0, 0, 0, 0, 0, 0, 0, 0, 0, 0, 0, 0, 0, 0, 0, 0, 0, 0, 0, 0, 0, 0, 0, 0, 0, 0, 0, 0, 0, 0, 0, 0, 0, 0, 0, 0, 0, 0, 0,
  20, 92, 248, 508, 1016, 2042, 4090, 8184, 16380, 32764, 65534, 131068, 262136, 524272, 1048550, 2097116, 4194258, 8388568, 16777194, 33554412, 67108832, 134217694,
  268435426, 536870910, 1073741820, 0, 0, 0, 0, 0, 10, 26, 32, 6, 0, 5, 3, 2, 6, 2, 3, 0, 0, 0, 3, 8, 13, 26, 29, 12, 4, 15, 19, 29, 0] (((↑(usZ 30 j2) : Int) = IntKind.wrap
  IntKind.i64 (cellI (lsK 30 j (usZ 30 j : Nat) (List.length (syZ 30 j) + 1)) 61 + (1 : Int))) /\ (E1 [0, 0, 0, 0, 0, 0, 10, 36, 68, 74, 74, 79, 82, 84, 90, 92, 95, 95, 95,
  95, 98, 106, 119, 145, 174, 186, 190, 205, 224, 253, 253] ((0 = 0) /\ ((List.length (syZ 30 j2) = List.length (syZ 30 j) + 1) /\ ((Eq (α := List Value) (nC (syZ 30 j2))
  (List.take (List.length (syZ 30 j) * 1) (List.drop 0 (nC (syZ 30 j))) ++ [Value.int IntKind.i64 (↑j : Int)])) /\ ((Plain (nC (syZ 30 j2))) /\ True)))))))))))))))) False)
  False) (∃ j2 : Nat, ((Inv j2) /\ ((m j2 < m j) /\ ((0 = 0) /\ ((0 = 0) /\ (((1073741820 : Int) + (↑(usZ 30 j2) : Int) = (1073741820 : Int) + (↑(usZ 30 j) : Int)) /\ ((E0
  30) /\ (((↑j2 : Int) = IntKind.wrap IntKind.i64 ((↑j : Int) + (1 : Int))) /\ (E1 [0, 0, 0, 0, 0, 0, 0, 0, 0, 0, 0, 0, 0, 0, 0, 0, 0, 0, 0, 0, 0, 0, 0, 0, 0, 0, 0, 0, 0, 0,
  0, 0, 0, 0, 0, 0, 0, 0, 0, 0, 0, 0, 0, 0, 0, 0, 0, 0, 0, 0, 0, 0, 0, 0, 0, 0, 0, 0, 0, 0, 0, 0, 0, 0, 0, 0, 0, 0, 0, 0, 0, 0, 0, 0, 0, 0, 0, 0, 0, 0, 0, 0, 0, 0, 0, 0, 0,
  0, 0, 0, 0, 0, 0, 0, 0, 0, 0, 0, 0, 20, 92, 248, 508, 1016, 2042, 4090, 8184, 16380, 32764, 65534, 131068, 262136, 524272, 1048550, 2097116, 4194258, 8388568, 16777194,
  33554412, 67108832, 134217694, 268435426, 536870910, 1073741820, 0, 0, 0, 0, 0, 10, 26, 32, 6, 0, 5, 3, 2, 6, 2, 3, 0, 0, 0, 3, 8, 13, 26, 29, 12, 4, 15, 19, 29, 0]
  (((↑(usZ 30 j2) : Int) = (↑(usZ 30 j) : Int)) /\ (E1 [0, 0, 0, 0, 0, 0, 10, 36, 68, 74, 74, 79, 82, 84, 90, 92, 95, 95, 95, 95, 98, 106, 119, 145, 174, 186, 190, 205, 224,
  253, 253] ((0 = 0) /\ ((List.length (syZ 30 j2) = List.length (syZ 30 j)) /\ ((Eq (α := List Value) (nC (syZ 30 j2)) (nC (syZ 30 j))) /\ ((Plain (nC (syZ 30 j2))) /\
  True))))))))))))))))) (∃ y : Unit, ((True) /\ ((0 = 0) /\ ((0 = 0) /\ (((1073741824 : Int) = (1073741820 : Int) + (↑(usZ 30 j) : Int)) /\ (E1 [30, 0, 0, 0, 0, 0, 0, 0, 0,
  0, 0, 0, 0, 0, 0, 0, 0, 0, 0, 0, 0, 0, 0, 0, 0, 0, 0, 0, 0, 0, 0, 0, 0, 0, 0, 0, 0, 0, 0, 0, 0, 0, 0, 0, 0, 0, 0, 0, 0, 0, 0, 0, 0, 0, 0, 0, 0, 0, 0, 0, 0, 0, 0, 0, 0, 0,
  0, 0, 0, 0, 0, 0, 0, 0, 0, 0, 0, 0, 0, 0, 0, 0, 0, 0, 0, 0, 0, 0, 0, 0, 0, 0, 0, 0, 0, 0, 0, 0, 0, 0, 20, 92, 248, 508, 1016, 2042, 4090, 8184, 16380, 32764, 65534,
  131068, 262136, 524272, 1048550, 2097116, 4194258, 8388568, 16777194, 33554412, 67108832, 134217694, 268435426, 536870910, 1073741820, 0, 0, 0, 0, 0, 10, 26, 32, 6, 0, 5,
  3, 2, 6, 2, 3, 0, 0, 0, 3, 8, 13, 26, 29, 12, 4, 15, 19, 29, 0] (((4 : Int) = (↑(usZ 30 j) : Int)) /\ (E1 [0, 0, 0, 0, 0, 0, 10, 36, 68, 74, 74, 79, 82, 84, 90, 92, 95,
  95, 95, 95, 98, 106, 119, 145, 174, 186, 190, 205, 224, 253, 253] ((0 = 0) /\ ((257 = List.length (syZ 30 j)) /\ ((Eq (α := List Value) (nC (syZ (30 + 1) 0)) (nC (syZ 30
  j))) /\ ((Plain (nC (syZ (30 + 1) 0))) /\ True))))))))))))) := by kernel_rfl
theorem us_le (K : Nat) : ∀ j, used K j ≤ j
  | 0 => Nat.le_refl _
  | j + 1 => by have := us_le K j; unfold used; split <;> omega
theorem us_suc (K j : Nat) : usZ K (j + 1) = usZ K j + if hLen j = K then 1 else 0 := by rw [z_us, z_us]; rfl
theorem sy_suc (K j : Nat) : syZ K (j + 1) = syZ K j ++ if hLen j = K then [j] else [] := by
  rw [z_sy, z_sy]; unfold syL
  rw [List.range_succ, List.filter_append, List.append_assoc]
  by_cases h : hLen j = K
  · simp [h]
  · simp [h]
theorem sy_len (K : Nat) : ∀ j, (syZ K j).length = (syZ K 0).length + usZ K j
  | 0 => by rw [z_us]; rfl
  | j + 1 => by rw [sy_suc, us_suc, List.length_append, sy_len K j]; split <;> simp <;> omega
theorem hI (j : Nat) (h : j < 257) : hLenI (j : Nat) = ((hLen j : Nat) : Int) := by unfold hLenI; rw [if_pos (by omega)]; simp
theorem M1_piece : PieceOk EtM 0 (27, pMi, specK 1) := by
  refine piece_loop tk.mixed (calls_envT tM_ok) (lok_envT _ _) lm_none (n := 60) (by kernel_rfl) (fun _ : Unit => 0) (fun _ j => j ≤ 257) (fun _ j => 257 - j) (sl := fun _ j => slM 1 j) (rl := fun _ j => rlM 1 j) (fun g hg => Nat.zero_le _) (fun g j hg hi => ?_)
  refine (M1_round j _ _).mpr ?_
  have hu := us_le 1 j
  rw [← z_us] at hu
  have h0 : (syZ 1 0).length = 0 := by rw [z_sy]; decide +kernel
  have hs := sy_len 1 j
  have pn := fun l => nC_plain l
  simp only [ofNat_eq, toNat_cast, Nat.zero_add, Nat.add_zero, Nat.mul_one, List.drop_zero, bCells_len, bCells_drop, bCells_take, bCells_app, bCells_one, bCells_plain, List.length_replicate, List.length_append, List.length_take, List.length_drop, List.take_length, and_true, true_and, and_self, decide_true, List.length_nil, List.length_cons, Nat.sub_zero, dB_mk, dB_ro, List.take_zero, nC_len, pn, E0, E1_eq, lsK]
  refine br_if (fun h => ?_) (fun h => ?_)
  · have hj : j < 257 := by omega
    have w1 : IntKind.i64.wrap ((j : Int) + 1) = ((j + 1 : Nat) : Int) := by rw [wr64_id (by unfold I64; omega)]; omega
    have e1 := us_suc 1 j
    have e2 := sy_suc 1 j
    rw [hI j hj]
    by_cases q : hLen j = 1
    · rw [if_pos q] at e1 e2
      have wu : ((usZ 1 (j + 1) : Nat) : Int) = IntKind.i64.wrap ((usZ 1 j : Nat) + 1) := by rw [e1, wr64_id (by unfold I64; omega)]; omega
      refine br_b (by simp [q]) (br_dec (by omega) (br_dec (by omega) ⟨rfl, j + 1, by omega, by omega, ?_, w1.symm, wu, by rw [e2, List.length_append]; rfl, ?_⟩))
      · rw [e1, wr64_id (by unfold I64; omega)]; omega
      · rw [e2, List.take_of_length_le (by rw [nC_len]; exact Nat.le_refl _)]; unfold nC; rw [List.map_append]; rfl
    · rw [if_neg q] at e1 e2
      exact br_nb (by simp; omega) ⟨j + 1, by omega, by omega, by rw [e1]; rfl, w1.symm, by rw [e1]; rfl, by rw [e2, List.append_nil], by rw [e2, List.append_nil]⟩
  · have : j = 257 := by omega
    subst this
    have u : usZ 1 257 = 0 := by rw [z_us]; decide +kernel
    have v : syZ 1 257 = syZ (1 + 1) 0 := by rw [z_sy, z_sy]; decide +kernel
    exact ⟨(), by rw [u]; rfl, by rw [u]; rfl, by rw [hs, h0, u], by rw [v]⟩
theorem M2_piece : PieceOk EtM 0 (27, pMi, specK 2) := by
  refine piece_loop tk.mixed (calls_envT tM_ok) (lok_envT _ _) lm_none (n := 60) (by kernel_rfl) (fun _ : Unit => 0) (fun _ j => j ≤ 257) (fun _ j => 257 - j) (sl := fun _ j => slM 2 j) (rl := fun _ j => rlM 2 j) (fun g hg => Nat.zero_le _) (fun g j hg hi => ?_)
  refine (M2_round j _ _).mpr ?_
  have hu := us_le 2 j
  rw [← z_us] at hu
  have h0 : (syZ 2 0).length = 0 := by rw [z_sy]; decide +kernel
  have hs := sy_len 2 j
  have pn := fun l => nC_plain l
  simp only [ofNat_eq, toNat_cast, Nat.zero_add, Nat.add_zero, Nat.mul_one, List.drop_zero, bCells_len, bCells_drop, bCells_take, bCells_app, bCells_one, bCells_plain, List.length_replicate, List.length_append, List.length_take, List.length_drop, List.take_length, and_true, true_and, and_self, decide_true, List.length_nil, List.length_cons, Nat.sub_zero, dB_mk, dB_ro, List.take_zero, nC_len, pn, E0, E1_eq, lsK]
  refine br_if (fun h => ?_) (fun h => ?_)
  · have hj : j < 257 := by omega
    have w1 : IntKind.i64.wrap ((j : Int) + 1) = ((j + 1 : Nat) : Int) := by rw [wr64_id (by unfold I64; omega)]; omega
    have e1 := us_suc 2 j
    have e2 := sy_suc 2 j
    rw [hI j hj]
    by_cases q : hLen j = 2
    · rw [if_pos q] at e1 e2
      have wu : ((usZ 2 (j + 1) : Nat) : Int) = IntKind.i64.wrap ((usZ 2 j : Nat) + 1) := by rw [e1, wr64_id (by unfold I64; omega)]; omega
      refine br_b (by simp [q]) (br_dec (by omega) (br_dec (by omega) ⟨rfl, j + 1, by omega, by omega, ?_, w1.symm, wu, by rw [e2, List.length_append]; rfl, ?_⟩))
      · rw [e1, wr64_id (by unfold I64; omega)]; omega
      · rw [e2, List.take_of_length_le (by rw [nC_len]; exact Nat.le_refl _)]; unfold nC; rw [List.map_append]; rfl
    · rw [if_neg q] at e1 e2
      exact br_nb (by simp; omega) ⟨j + 1, by omega, by omega, by rw [e1]; rfl, w1.symm, by rw [e1]; rfl, by rw [e2, List.append_nil], by rw [e2, List.append_nil]⟩
  · have : j = 257 := by omega
    subst this
    have u : usZ 2 257 = 0 := by rw [z_us]; decide +kernel
    have v : syZ 2 257 = syZ (2 + 1) 0 := by rw [z_sy, z_sy]; decide +kernel
    exact ⟨(), by rw [u]; rfl, by rw [u]; rfl, by rw [hs, h0, u], by rw [v]⟩
theorem M3_piece : PieceOk EtM 0 (27, pMi, specK 3) := by
  refine piece_loop tk.mixed (calls_envT tM_ok) (lok_envT _ _) lm_none (n := 60) (by kernel_rfl) (fun _ : Unit => 0) (fun _ j => j ≤ 257) (fun _ j => 257 - j) (sl := fun _ j => slM 3 j) (rl := fun _ j => rlM 3 j) (fun g hg => Nat.zero_le _) (fun g j hg hi => ?_)
  refine (M3_round j _ _).mpr ?_
  have hu := us_le 3 j
  rw [← z_us] at hu
  have h0 : (syZ 3 0).length = 0 := by rw [z_sy]; decide +kernel
  have hs := sy_len 3 j
  have pn := fun l => nC_plain l
  simp only [ofNat_eq, toNat_cast, Nat.zero_add, Nat.add_zero, Nat.mul_one, List.drop_zero, bCells_len, bCells_drop, bCells_take, bCells_app, bCells_one, bCells_plain, List.length_replicate, List.length_append, List.length_take, List.length_drop, List.take_length, and_true, true_and, and_self, decide_true, List.length_nil, List.length_cons, Nat.sub_zero, dB_mk, dB_ro, List.take_zero, nC_len, pn, E0, E1_eq, lsK]
  refine br_if (fun h => ?_) (fun h => ?_)
  · have hj : j < 257 := by omega
    have w1 : IntKind.i64.wrap ((j : Int) + 1) = ((j + 1 : Nat) : Int) := by rw [wr64_id (by unfold I64; omega)]; omega
    have e1 := us_suc 3 j
    have e2 := sy_suc 3 j
    rw [hI j hj]
    by_cases q : hLen j = 3
    · rw [if_pos q] at e1 e2
      have wu : ((usZ 3 (j + 1) : Nat) : Int) = IntKind.i64.wrap ((usZ 3 j : Nat) + 1) := by rw [e1, wr64_id (by unfold I64; omega)]; omega
      refine br_b (by simp [q]) (br_dec (by omega) (br_dec (by omega) ⟨rfl, j + 1, by omega, by omega, ?_, w1.symm, wu, by rw [e2, List.length_append]; rfl, ?_⟩))
      · rw [e1, wr64_id (by unfold I64; omega)]; omega
      · rw [e2, List.take_of_length_le (by rw [nC_len]; exact Nat.le_refl _)]; unfold nC; rw [List.map_append]; rfl
    · rw [if_neg q] at e1 e2
      exact br_nb (by simp; omega) ⟨j + 1, by omega, by omega, by rw [e1]; rfl, w1.symm, by rw [e1]; rfl, by rw [e2, List.append_nil], by rw [e2, List.append_nil]⟩
  · have : j = 257 := by omega
    subst this
    have u : usZ 3 257 = 0 := by rw [z_us]; decide +kernel
    have v : syZ 3 257 = syZ (3 + 1) 0 := by rw [z_sy, z_sy]; decide +kernel
    exact ⟨(), by rw [u]; rfl, by rw [u]; rfl, by rw [hs, h0, u], by rw [v]⟩
theorem M4_piece : PieceOk EtM 0 (27, pMi, specK 4) := by
  refine piece_loop tk.mixed (calls_envT tM_ok) (lok_envT _ _) lm_none (n := 60) (by kernel_rfl) (fun _ : Unit => 0) (fun _ j => j ≤ 257) (fun _ j => 257 - j) (sl := fun _ j => slM 4 j) (rl := fun _ j => rlM 4 j) (fun g hg => Nat.zero_le _) (fun g j hg hi => ?_)
  refine (M4_round j _ _).mpr ?_
  have hu := us_le 4 j
  rw [← z_us] at hu
  have h0 : (syZ 4 0).length = 0 := by rw [z_sy]; decide +kernel
  have hs := sy_len 4 j
  have pn := fun l => nC_plain l
  simp only [ofNat_eq, toNat_cast, Nat.zero_add, Nat.add_zero, Nat.mul_one, List.drop_zero, bCells_len, bCells_drop, bCells_take, bCells_app, bCells_one, bCells_plain, List.length_replicate, List.length_append, List.length_take, List.length_drop, List.take_length, and_true, true_and, and_self, decide_true, List.length_nil, List.length_cons, Nat.sub_zero, dB_mk, dB_ro, List.take_zero, nC_len, pn, E0, E1_eq, lsK]
  refine br_if (fun h => ?_) (fun h => ?_)
  · have hj : j < 257 := by omega
    have w1 : IntKind.i64.wrap ((j : Int) + 1) = ((j + 1 : Nat) : Int) := by rw [wr64_id (by unfold I64; omega)]; omega
    have e1 := us_suc 4 j
    have e2 := sy_suc 4 j
    rw [hI j hj]
    by_cases q : hLen j = 4
    · rw [if_pos q] at e1 e2
      have wu : ((usZ 4 (j + 1) : Nat) : Int) = IntKind.i64.wrap ((usZ 4 j : Nat) + 1) := by rw [e1, wr64_id (by unfold I64; omega)]; omega
      refine br_b (by simp [q]) (br_dec (by omega) (br_dec (by omega) ⟨rfl, j + 1, by omega, by omega, ?_, w1.symm, wu, by rw [e2, List.length_append]; rfl, ?_⟩))
      · rw [e1, wr64_id (by unfold I64; omega)]; omega
      · rw [e2, List.take_of_length_le (by rw [nC_len]; exact Nat.le_refl _)]; unfold nC; rw [List.map_append]; rfl
    · rw [if_neg q] at e1 e2
      exact br_nb (by simp; omega) ⟨j + 1, by omega, by omega, by rw [e1]; rfl, w1.symm, by rw [e1]; rfl, by rw [e2, List.append_nil], by rw [e2, List.append_nil]⟩
  · have : j = 257 := by omega
    subst this
    have u : usZ 4 257 = 0 := by rw [z_us]; decide +kernel
    have v : syZ 4 257 = syZ (4 + 1) 0 := by rw [z_sy, z_sy]; decide +kernel
    exact ⟨(), by rw [u]; rfl, by rw [u]; rfl, by rw [hs, h0, u], by rw [v]⟩
theorem M5_piece : PieceOk EtM 0 (27, pMi, specK 5) := by
  refine piece_loop tk.mixed (calls_envT tM_ok) (lok_envT _ _) lm_none (n := 60) (by kernel_rfl) (fun _ : Unit => 0) (fun _ j => j ≤ 257) (fun _ j => 257 - j) (sl := fun _ j => slM 5 j) (rl := fun _ j => rlM 5 j) (fun g hg => Nat.zero_le _) (fun g j hg hi => ?_)
  refine (M5_round j _ _).mpr ?_
  have hu := us_le 5 j
  rw [← z_us] at hu
  have h0 : (syZ 5 0).length = 0 := by rw [z_sy]; decide +kernel
  have hs := sy_len 5 j
  have pn := fun l => nC_plain l
  simp only [ofNat_eq, toNat_cast, Nat.zero_add, Nat.add_zero, Nat.mul_one, List.drop_zero, bCells_len, bCells_drop, bCells_take, bCells_app, bCells_one, bCells_plain, List.length_replicate, List.length_append, List.length_take, List.length_drop, List.take_length, and_true, true_and, and_self, decide_true, List.length_nil, List.length_cons, Nat.sub_zero, dB_mk, dB_ro, List.take_zero, nC_len, pn, E0, E1_eq, lsK]
  refine br_if (fun h => ?_) (fun h => ?_)
  · have hj : j < 257 := by omega
    have w1 : IntKind.i64.wrap ((j : Int) + 1) = ((j + 1 : Nat) : Int) := by rw [wr64_id (by unfold I64; omega)]; omega
    have e1 := us_suc 5 j
    have e2 := sy_suc 5 j
    rw [hI j hj]
    by_cases q : hLen j = 5
    · rw [if_pos q] at e1 e2
      have wu : ((usZ 5 (j + 1) : Nat) : Int) = IntKind.i64.wrap ((usZ 5 j : Nat) + 1) := by rw [e1, wr64_id (by unfold I64; omega)]; omega
      refine br_b (by simp [q]) (br_dec (by omega) (br_dec (by omega) ⟨rfl, j + 1, by omega, by omega, ?_, w1.symm, wu, by rw [e2, List.length_append]; rfl, ?_⟩))
      · rw [e1, wr64_id (by unfold I64; omega)]; omega
      · rw [e2, List.take_of_length_le (by rw [nC_len]; exact Nat.le_refl _)]; unfold nC; rw [List.map_append]; rfl
    · rw [if_neg q] at e1 e2
      exact br_nb (by simp; omega) ⟨j + 1, by omega, by omega, by rw [e1]; rfl, w1.symm, by rw [e1]; rfl, by rw [e2, List.append_nil], by rw [e2, List.append_nil]⟩
  · have : j = 257 := by omega
    subst this
    have u : usZ 5 257 = 10 := by rw [z_us]; decide +kernel
    have v : syZ 5 257 = syZ (5 + 1) 0 := by rw [z_sy, z_sy]; decide +kernel
    exact ⟨(), by rw [u]; rfl, by rw [u]; rfl, by rw [hs, h0, u], by rw [v]⟩
theorem M6_piece : PieceOk EtM 0 (27, pMi, specK 6) := by
  refine piece_loop tk.mixed (calls_envT tM_ok) (lok_envT _ _) lm_none (n := 60) (by kernel_rfl) (fun _ : Unit => 0) (fun _ j => j ≤ 257) (fun _ j => 257 - j) (sl := fun _ j => slM 6 j) (rl := fun _ j => rlM 6 j) (fun g hg => Nat.zero_le _) (fun g j hg hi => ?_)
  refine (M6_round j _ _).mpr ?_
  have hu := us_le 6 j
  rw [← z_us] at hu
  have h0 : (syZ 6 0).length = 10 := by rw [z_sy]; decide +kernel
  have hs := sy_len 6 j
  have pn := fun l => nC_plain l
  simp only [ofNat_eq, toNat_cast, Nat.zero_add, Nat.add_zero, Nat.mul_one, List.drop_zero, bCells_len, bCells_drop, bCells_take, bCells_app, bCells_one, bCells_plain, List.length_replicate, List.length_append, List.length_take, List.length_drop, List.take_length, and_true, true_and, and_self, decide_true, List.length_nil, List.length_cons, Nat.sub_zero, dB_mk, dB_ro, List.take_zero, nC_len, pn, E0, E1_eq, lsK]
  refine br_if (fun h => ?_) (fun h => ?_)
  · have hj : j < 257 := by omega
    have w1 : IntKind.i64.wrap ((j : Int) + 1) = ((j + 1 : Nat) : Int) := by rw [wr64_id (by unfold I64; omega)]; omega
    have e1 := us_suc 6 j
    have e2 := sy_suc 6 j
    rw [hI j hj]
    by_cases q : hLen j = 6
    · rw [if_pos q] at e1 e2
      have wu : ((usZ 6 (j + 1) : Nat) : Int) = IntKind.i64.wrap ((usZ 6 j : Nat) + 1) := by rw [e1, wr64_id (by unfold I64; omega)]; omega
      refine br_b (by simp [q]) (br_dec (by omega) (br_dec (by omega) ⟨rfl, j + 1, by omega, by omega, ?_, w1.symm, wu, by rw [e2, List.length_append]; rfl, ?_⟩))
      · rw [e1, wr64_id (by unfold I64; omega)]; omega
      · rw [e2, List.take_of_length_le (by rw [nC_len]; exact Nat.le_refl _)]; unfold nC; rw [List.map_append]; rfl
    · rw [if_neg q] at e1 e2
      exact br_nb (by simp; omega) ⟨j + 1, by omega, by omega, by rw [e1]; rfl, w1.symm, by rw [e1]; rfl, by rw [e2, List.append_nil], by rw [e2, List.append_nil]⟩
  · have : j = 257 := by omega
    subst this
    have u : usZ 6 257 = 26 := by rw [z_us]; decide +kernel
    have v : syZ 6 257 = syZ (6 + 1) 0 := by rw [z_sy, z_sy]; decide +kernel
    exact ⟨(), by rw [u]; rfl, by rw [u]; rfl, by rw [hs, h0, u], by rw [v]⟩
theorem M7_piece : PieceOk EtM 0 (27, pMi, specK 7) := by
  refine piece_loop tk.mixed (calls_envT tM_ok) (lok_envT _ _) lm_none (n := 60) (by kernel_rfl) (fun _ : Unit => 0) (fun _ j => j ≤ 257) (fun _ j => 257 - j) (sl := fun _ j => slM 7 j) (rl := fun _ j => rlM 7 j) (fun g hg => Nat.zero_le _) (fun g j hg hi => ?_)
  refine (M7_round j _ _).mpr ?_
  have hu := us_le 7 j
  rw [← z_us] at hu
  have h0 : (syZ 7 0).length = 36 := by rw [z_sy]; decide +kernel
  have hs := sy_len 7 j
  have pn := fun l => nC_plain l
  simp only [ofNat_eq, toNat_cast, Nat.zero_add, Nat.add_zero, Nat.mul_one, List.drop_zero, bCells_len, bCells_drop, bCells_take, bCells_app, bCells_one, bCells_plain, List.length_replicate, List.length_append, List.length_take, List.length_drop, List.take_length, and_true, true_and, and_self, decide_true, List.length_nil, List.length_cons, Nat.sub_zero, dB_mk, dB_ro, List.take_zero, nC_len, pn, E0, E1_eq, lsK]
  refine br_if (fun h => ?_) (fun h => ?_)
  · have hj : j < 257 := by omega
    have w1 : IntKind.i64.wrap ((j : Int) + 1) = ((j + 1 : Nat) : Int) := by rw [wr64_id (by unfold I64; omega)]; omega
    have e1 := us_suc 7 j
    have e2 := sy_suc 7 j
    rw [hI j hj]
    by_cases q : hLen j = 7
    · rw [if_pos q] at e1 e2
      have wu : ((usZ 7 (j + 1) : Nat) : Int) = IntKind.i64.wrap ((usZ 7 j : Nat) + 1) := by rw [e1, wr64_id (by unfold I64; omega)]; omega
      refine br_b (by simp [q]) (br_dec (by omega) (br_dec (by omega) ⟨rfl, j + 1, by omega, by omega, ?_, w1.symm, wu, by rw [e2, List.length_append]; rfl, ?_⟩))
      · rw [e1, wr64_id (by unfold I64; omega)]; omega
      · rw [e2, List.take_of_length_le (by rw [nC_len]; exact Nat.le_refl _)]; unfold nC; rw [List.map_append]; rfl
    · rw [if_neg q] at e1 e2
      exact br_nb (by simp; omega) ⟨j + 1, by omega, by omega, by rw [e1]; rfl, w1.symm, by rw [e1]; rfl, by rw [e2, List.append_nil], by rw [e2, List.append_nil]⟩
  · have : j = 257 := by omega
    subst this
    have u : usZ 7 257 = 32 := by rw [z_us]; decide +kernel
    have v : syZ 7 257 = syZ (7 + 1) 0 := by rw [z_sy, z_sy]; decide +kernel
    exact ⟨(), by rw [u]; rfl, by rw [u]; rfl, by rw [hs, h0, u], by rw [v]⟩
theorem M8_piece : PieceOk EtM 0 (27, pMi, specK 8) := by
  refine piece_loop tk.mixed (calls_envT tM_ok) (lok_envT _ _) lm_none (n := 60) (by kernel_rfl) (fun _ : Unit => 0) (fun _ j => j ≤ 257) (fun _ j => 257 - j) (sl := fun _ j => slM 8 j) (rl := fun _ j => rlM 8 j) (fun g hg => Nat.zero_le _) (fun g j hg hi => ?_)
  refine (M8_round j _ _).mpr ?_
  have hu := us_le 8 j
  rw [← z_us] at hu
  have h0 : (syZ 8 0).length = 68 := by rw [z_sy]; decide +kernel
  have hs := sy_len 8 j
  have pn := fun l => nC_plain l
  simp only [ofNat_eq, toNat_cast, Nat.zero_add, Nat.add_zero, Nat.mul_one, List.drop_zero, bCells_len, bCells_drop, bCells_take, bCells_app, bCells_one, bCells_plain, List.length_replicate, List.length_append, List.length_take, List.length_drop, List.take_length, and_true, true_and, and_self, decide_true, List.length_nil, List.length_cons, Nat.sub_zero, dB_mk, dB_ro, List.take_zero, nC_len, pn, E0, E1_eq, lsK]
  refine br_if (fun h => ?_) (fun h => ?_)
  · have hj : j < 257 := by omega
    have w1 : IntKind.i64.wrap ((j : Int) + 1) = ((j + 1 : Nat) : Int) := by rw [wr64_id (by unfold I64; omega)]; omega
    have e1 := us_suc 8 j
    have e2 := sy_suc 8 j
    rw [hI j hj]
    by_cases q : hLen j = 8
    · rw [if_pos q] at e1 e2
      have wu : ((usZ 8 (j + 1) : Nat) : Int) = IntKind.i64.wrap ((usZ 8 j : Nat) + 1) := by rw [e1, wr64_id (by unfold I64; omega)]; omega
      refine br_b (by simp [q]) (br_dec (by omega) (br_dec (by omega) ⟨rfl, j + 1, by omega, by omega, ?_, w1.symm, wu, by rw [e2, List.length_append]; rfl, ?_⟩))
      · rw [e1, wr64_id (by unfold I64; omega)]; omega
      · rw [e2, List.take_of_length_le (by rw [nC_len]; exact Nat.le_refl _)]; unfold nC; rw [List.map_append]; rfl
    · rw [if_neg q] at e1 e2
      exact br_nb (by simp; omega) ⟨j + 1, by omega, by omega, by rw [e1]; rfl, w1.symm, by rw [e1]; rfl, by rw [e2, List.append_nil], by rw [e2, List.append_nil]⟩
  · have : j = 257 := by omega
    subst this
    have u : usZ 8 257 = 6 := by rw [z_us]; decide +kernel
    have v : syZ 8 257 = syZ (8 + 1) 0 := by rw [z_sy, z_sy]; decide +kernel
    exact ⟨(), by rw [u]; rfl, by rw [u]; rfl, by rw [hs, h0, u], by rw [v]⟩
theorem M9_piece : PieceOk EtM 0 (27, pMi, specK 9) := by
  refine piece_loop tk.mixed (calls_envT tM_ok) (lok_envT _ _) lm_none (n := 60) (by kernel_rfl) (fun _ : Unit => 0) (fun _ j => j ≤ 257) (fun _ j => 257 - j) (sl := fun _ j => slM 9 j) (rl := fun _ j => rlM 9 j) (fun g hg => Nat.zero_le _) (fun g j hg hi => ?_)
  refine (M9_round j _ _).mpr ?_
  have hu := us_le 9 j
  rw [← z_us] at hu
  have h0 : (syZ 9 0).length = 74 := by rw [z_sy]; decide +kernel
  have hs := sy_len 9 j
  have pn := fun l => nC_plain l
  simp only [ofNat_eq, toNat_cast, Nat.zero_add, Nat.add_zero, Nat.mul_one, List.drop_zero, bCells_len, bCells_drop, bCells_take, bCells_app, bCells_one, bCells_plain, List.length_replicate, List.length_append, List.length_take, List.length_drop, List.take_length, and_true, true_and, and_self, decide_true, List.length_nil, List.length_cons, Nat.sub_zero, dB_mk, dB_ro, List.take_zero, nC_len, pn, E0, E1_eq, lsK]
  refine br_if (fun h => ?_) (fun h => ?_)
  · have hj : j < 257 := by omega
    have w1 : IntKind.i64.wrap ((j : Int) + 1) = ((j + 1 : Nat) : Int) := by rw [wr64_id (by unfold I64; omega)]; omega
    have e1 := us_suc 9 j
    have e2 := sy_suc 9 j
    rw [hI j hj]
    by_cases q : hLen j = 9
    · rw [if_pos q] at e1 e2
      have wu : ((usZ 9 (j + 1) : Nat) : Int) = IntKind.i64.wrap ((usZ 9 j : Nat) + 1) := by rw [e1, wr64_id (by unfold I64; omega)]; omega
      refine br_b (by simp [q]) (br_dec (by omega) (br_dec (by omega) ⟨rfl, j + 1, by omega, by omega, ?_, w1.symm, wu, by rw [e2, List.length_append]; rfl, ?_⟩))
      · rw [e1, wr64_id (by unfold I64; omega)]; omega
      · rw [e2, List.take_of_length_le (by rw [nC_len]; exact Nat.le_refl _)]; unfold nC; rw [List.map_append]; rfl
    · rw [if_neg q] at e1 e2
      exact br_nb (by simp; omega) ⟨j + 1, by omega, by omega, by rw [e1]; rfl, w1.symm, by rw [e1]; rfl, by rw [e2, List.append_nil], by rw [e2, List.append_nil]⟩
  · have : j = 257 := by omega
    subst this
    have u : usZ 9 257 = 0 := by rw [z_us]; decide +kernel
    have v : syZ 9 257 = syZ (9 + 1) 0 := by rw [z_sy, z_sy]; decide +kernel
    exact ⟨(), by rw [u]; rfl, by rw [u]; rfl, by rw [hs, h0, u], by rw [v]⟩
theorem M10_piece : PieceOk EtM 0 (27, pMi, specK 10) := by
  refine piece_loop tk.mixed (calls_envT tM_ok) (lok_envT _ _) lm_none (n := 60) (by kernel_rfl) (fun _ : Unit => 0) (fun _ j => j ≤ 257) (fun _ j => 257 - j) (sl := fun _ j => slM 10 j) (rl := fun _ j => rlM 10 j) (fun g hg => Nat.zero_le _) (fun g j hg hi => ?_)
  refine (M10_round j _ _).mpr ?_
  have hu := us_le 10 j
  rw [← z_us] at hu
  have h0 : (syZ 10 0).length = 74 := by rw [z_sy]; decide +kernel
  have hs := sy_len 10 j
  have pn := fun l => nC_plain l
  simp only [ofNat_eq, toNat_cast, Nat.zero_add, Nat.add_zero, Nat.mul_one, List.drop_zero, bCells_len, bCells_drop, bCells_take, bCells_app, bCells_one, bCells_plain, List.length_replicate, List.length_append, List.length_take, List.length_drop, List.take_length, and_true, true_and, and_self, decide_true, List.length_nil, List.length_cons, Nat.sub_zero, dB_mk, dB_ro, List.take_zero, nC_len, pn, E0, E1_eq, lsK]
  refine br_if (fun h => ?_) (fun h => ?_)
  · have hj : j < 257 := by omega
    have w1 : IntKind.i64.wrap ((j : Int) + 1) = ((j + 1 : Nat) : Int) := by rw [wr64_id (by unfold I64; omega)]; omega
    have e1 := us_suc 10 j
    have e2 := sy_suc 10 j
    rw [hI j hj]
    by_cases q : hLen j = 10
    · rw [if_pos q] at e1 e2
      have wu : ((usZ 10 (j + 1) : Nat) : Int) = IntKind.i64.wrap ((usZ 10 j : Nat) + 1) := by rw [e1, wr64_id (by unfold I64; omega)]; omega
      refine br_b (by simp [q]) (br_dec (by omega) (br_dec (by omega) ⟨rfl, j + 1, by omega, by omega, ?_, w1.symm, wu, by rw [e2, List.length_append]; rfl, ?_⟩))
      · rw [e1, wr64_id (by unfold I64; omega)]; omega
      · rw [e2, List.take_of_length_le (by rw [nC_len]; exact Nat.le_refl _)]; unfold nC; rw [List.map_append]; rfl
    · rw [if_neg q] at e1 e2
      exact br_nb (by simp; omega) ⟨j + 1, by omega, by omega, by rw [e1]; rfl, w1.symm, by rw [e1]; rfl, by rw [e2, List.append_nil], by rw [e2, List.append_nil]⟩
  · have : j = 257 := by omega
    subst this
    have u : usZ 10 257 = 5 := by rw [z_us]; decide +kernel
    have v : syZ 10 257 = syZ (10 + 1) 0 := by rw [z_sy, z_sy]; decide +kernel
    exact ⟨(), by rw [u]; rfl, by rw [u]; rfl, by rw [hs, h0, u], by rw [v]⟩
theorem M11_piece : PieceOk EtM 0 (27, pMi, specK 11) := by
  refine piece_loop tk.mixed (calls_envT tM_ok) (lok_envT _ _) lm_none (n := 60) (by kernel_rfl) (fun _ : Unit => 0) (fun _ j => j ≤ 257) (fun _ j => 257 - j) (sl := fun _ j => slM 11 j) (rl := fun _ j => rlM 11 j) (fun g hg => Nat.zero_le _) (fun g j hg hi => ?_)
  refine (M11_round j _ _).mpr ?_
  have hu := us_le 11 j
  rw [← z_us] at hu
  have h0 : (syZ 11 0).length = 79 := by rw [z_sy]; decide +kernel
  have hs := sy_len 11 j
  have pn := fun l => nC_plain l
  simp only [ofNat_eq, toNat_cast, Nat.zero_add, Nat.add_zero, Nat.mul_one, List.drop_zero, bCells_len, bCells_drop, bCells_take, bCells_app, bCells_one, bCells_plain, List.length_replicate, List.length_append, List.length_take, List.length_drop, List.take_length, and_true, true_and, and_self, decide_true, List.length_nil, List.length_cons, Nat.sub_zero, dB_mk, dB_ro, List.take_zero, nC_len, pn, E0, E1_eq, lsK]
  refine br_if (fun h => ?_) (fun h => ?_)
  · have hj : j < 257 := by omega
    have w1 : IntKind.i64.wrap ((j : Int) + 1) = ((j + 1 : Nat) : Int) := by rw [wr64_id (by unfold I64; omega)]; omega
    have e1 := us_suc 11 j
    have e2 := sy_suc 11 j
    rw [hI j hj]
    by_cases q : hLen j = 11
    · rw [if_pos q] at e1 e2
      have wu : ((usZ 11 (j + 1) : Nat) : Int) = IntKind.i64.wrap ((usZ 11 j : Nat) + 1) := by rw [e1, wr64_id (by unfold I64; omega)]; omega
      refine br_b (by simp [q]) (br_dec (by omega) (br_dec (by omega) ⟨rfl, j + 1, by omega, by omega, ?_, w1.symm, wu, by rw [e2, List.length_append]; rfl, ?_⟩))
      · rw [e1, wr64_id (by unfold I64; omega)]; omega
      · rw [e2, List.take_of_length_le (by rw [nC_len]; exact Nat.le_refl _)]; unfold nC; rw [List.map_append]; rfl
    · rw [if_neg q] at e1 e2
      exact br_nb (by simp; omega) ⟨j + 1, by omega, by omega, by rw [e1]; rfl, w1.symm, by rw [e1]; rfl, by rw [e2, List.append_nil], by rw [e2, List.append_nil]⟩
  · have : j = 257 := by omega
    subst this
    have u : usZ 11 257 = 3 := by rw [z_us]; decide +kernel
    have v : syZ 11 257 = syZ (11 + 1) 0 := by rw [z_sy, z_sy]; decide +kernel
    exact ⟨(), by rw [u]; rfl, by rw [u]; rfl, by rw [hs, h0, u], by rw [v]⟩
theorem M12_piece : PieceOk EtM 0 (27, pMi, specK 12) := by
  refine piece_loop tk.mixed (calls_envT tM_ok) (lok_envT _ _) lm_none (n := 60) (by kernel_rfl) (fun _ : Unit => 0) (fun _ j => j ≤ 257) (fun _ j => 257 - j) (sl := fun _ j => slM 12 j) (rl := fun _ j => rlM 12 j) (fun g hg => Nat.zero_le _) (fun g j hg hi => ?_)
  refine (M12_round j _ _).mpr ?_
  have hu := us_le 12 j
  rw [← z_us] at hu
  have h0 : (syZ 12 0).length = 82 := by rw [z_sy]; decide +kernel
  have hs := sy_len 12 j
  have pn := fun l => nC_plain l
  simp only [ofNat_eq, toNat_cast, Nat.zero_add, Nat.add_zero, Nat.mul_one, List.drop_zero, bCells_len, bCells_drop, bCells_take, bCells_app, bCells_one, bCells_plain, List.length_replicate, List.length_append, List.length_take, List.length_drop, List.take_length, and_true, true_and, and_self, decide_true, List.length_nil, List.length_cons, Nat.sub_zero, dB_mk, dB_ro, List.take_zero, nC_len, pn, E0, E1_eq, lsK]
  refine br_if (fun h => ?_) (fun h => ?_)
  · have hj : j < 257 := by omega
    have w1 : IntKind.i64.wrap ((j : Int) + 1) = ((j + 1 : Nat) : Int) := by rw [wr64_id (by unfold I64; omega)]; omega
    have e1 := us_suc 12 j
    have e2 := sy_suc 12 j
    rw [hI j hj]
    by_cases q : hLen j = 12
    · rw [if_pos q] at e1 e2
      have wu : ((usZ 12 (j + 1) : Nat) : Int) = IntKind.i64.wrap ((usZ 12 j : Nat) + 1) := by rw [e1, wr64_id (by unfold I64; omega)]; omega
      refine br_b (by simp [q]) (br_dec (by omega) (br_dec (by omega) ⟨rfl, j + 1, by omega, by omega, ?_, w1.symm, wu, by rw [e2, List.length_append]; rfl, ?_⟩))
      · rw [e1, wr64_id (by unfold I64; omega)]; omega
      · rw [e2, List.take_of_length_le (by rw [nC_len]; exact Nat.le_refl _)]; unfold nC; rw [List.map_append]; rfl
    · rw [if_neg q] at e1 e2
      exact br_nb (by simp; omega) ⟨j + 1, by omega, by omega, by rw [e1]; rfl, w1.symm, by rw [e1]; rfl, by rw [e2, List.append_nil], by rw [e2, List.append_nil]⟩
  · have : j = 257 := by omega
    subst this
    have u : usZ 12 257 = 2 := by rw [z_us]; decide +kernel
    have v : syZ 12 257 = syZ (12 + 1) 0 := by rw [z_sy, z_sy]; decide +kernel
    exact ⟨(), by rw [u]; rfl, by rw [u]; rfl, by rw [hs, h0, u], by rw [v]⟩
theorem M13_piece : PieceOk EtM 0 (27, pMi, specK 13) := by
  refine piece_loop tk.mixed (calls_envT tM_ok) (lok_envT _ _) lm_none (n := 60) (by kernel_rfl) (fun _ : Unit => 0) (fun _ j => j ≤ 257) (fun _ j => 257 - j) (sl := fun _ j => slM 13 j) (rl := fun _ j => rlM 13 j) (fun g hg => Nat.zero_le _) (fun g j hg hi => ?_)
  refine (M13_round j _ _).mpr ?_
  have hu := us_le 13 j
  rw [← z_us] at hu
  have h0 : (syZ 13 0).length = 84 := by rw [z_sy]; decide +kernel
  have hs := sy_len 13 j
  have pn := fun l => nC_plain l
  simp only [ofNat_eq, toNat_cast, Nat.zero_add, Nat.add_zero, Nat.mul_one, List.drop_zero, bCells_len, bCells_drop, bCells_take, bCells_app, bCells_one, bCells_plain, List.length_replicate, List.length_append, List.length_take, List.length_drop, List.take_length, and_true, true_and, and_self, decide_true, List.length_nil, List.length_cons, Nat.sub_zero, dB_mk, dB_ro, List.take_zero, nC_len, pn, E0, E1_eq, lsK]
  refine br_if (fun h => ?_) (fun h => ?_)
  · have hj : j < 257 := by omega
    have w1 : IntKind.i64.wrap ((j : Int) + 1) = ((j + 1 : Nat) : Int) := by rw [wr64_id (by unfold I64; omega)]; omega
    have e1 := us_suc 13 j
    have e2 := sy_suc 13 j
    rw [hI j hj]
    by_cases q : hLen j = 13
    · rw [if_pos q] at e1 e2
      have wu : ((usZ 13 (j + 1) : Nat) : Int) = IntKind.i64.wrap ((usZ 13 j : Nat) + 1) := by rw [e1, wr64_id (by unfold I64; omega)]; omega
      refine br_b (by simp [q]) (br_dec (by omega) (br_dec (by omega) ⟨rfl, j + 1, by omega, by omega, ?_, w1.symm, wu, by rw [e2, List.length_append]; rfl, ?_⟩))
      · rw [e1, wr64_id (by unfold I64; omega)]; omega
      · rw [e2, List.take_of_length_le (by rw [nC_len]; exact Nat.le_refl _)]; unfold nC; rw [List.map_append]; rfl
    · rw [if_neg q] at e1 e2
      exact br_nb (by simp; omega) ⟨j + 1, by omega, by omega, by rw [e1]; rfl, w1.symm, by rw [e1]; rfl, by rw [e2, List.append_nil], by rw [e2, List.append_nil]⟩
  · have : j = 257 := by omega
    subst this
    have u : usZ 13 257 = 6 := by rw [z_us]; decide +kernel
    have v : syZ 13 257 = syZ (13 + 1) 0 := by rw [z_sy, z_sy]; decide +kernel
    exact ⟨(), by rw [u]; rfl, by rw [u]; rfl, by rw [hs, h0, u], by rw [v]⟩
theorem M14_piece : PieceOk EtM 0 (27, pMi, specK 14) := by
  refine piece_loop tk.mixed (calls_envT tM_ok) (lok_envT _ _) lm_none (n := 60) (by kernel_rfl) (fun _ : Unit => 0) (fun _ j => j ≤ 257) (fun _ j => 257 - j) (sl := fun _ j => slM 14 j) (rl := fun _ j => rlM 14 j) (fun g hg => Nat.zero_le _) (fun g j hg hi => ?_)
  refine (M14_round j _ _).mpr ?_
  have hu := us_le 14 j
  rw [← z_us] at hu
  have h0 : (syZ 14 0).length = 90 := by rw [z_sy]; decide +kernel
  have hs := sy_len 14 j
  have pn := fun l => nC_plain l
  simp only [ofNat_eq, toNat_cast, Nat.zero_add, Nat.add_zero, Nat.mul_one, List.drop_zero, bCells_len, bCells_drop, bCells_take, bCells_app, bCells_one, bCells_plain, List.length_replicate, List.length_append, List.length_take, List.length_drop, List.take_length, and_true, true_and, and_self, decide_true, List.length_nil, List.length_cons, Nat.sub_zero, dB_mk, dB_ro, List.take_zero, nC_len, pn, E0, E1_eq, lsK]
  refine br_if (fun h => ?_) (fun h => ?_)
  · have hj : j < 257 := by omega
    have w1 : IntKind.i64.wrap ((j : Int) + 1) = ((j + 1 : Nat) : Int) := by rw [wr64_id (by unfold I64; omega)]; omega
    have e1 := us_suc 14 j
    have e2 := sy_suc 14 j
    rw [hI j hj]
    by_cases q : hLen j = 14
    · rw [if_pos q] at e1 e2
      have wu : ((usZ 14 (j + 1) : Nat) : Int) = IntKind.i64.wrap ((usZ 14 j : Nat) + 1) := by rw [e1, wr64_id (by unfold I64; omega)]; omega
      refine br_b (by simp [q]) (br_dec (by omega) (br_dec (by omega) ⟨rfl, j + 1, by omega, by omega, ?_, w1.symm, wu, by rw [e2, List.length_append]; rfl, ?_⟩))
      · rw [e1, wr64_id (by unfold I64; omega)]; omega
      · rw [e2, List.take_of_length_le (by rw [nC_len]; exact Nat.le_refl _)]; unfold nC; rw [List.map_append]; rfl
    · rw [if_neg q] at e1 e2
      exact br_nb (by simp; omega) ⟨j + 1, by omega, by omega, by rw [e1]; rfl, w1.symm, by rw [e1]; rfl, by rw [e2, List.append_nil], by rw [e2, List.append_nil]⟩
  · have : j = 257 := by omega
    subst this
    have u : usZ 14 257 = 2 := by rw [z_us]; decide +kernel
    have v : syZ 14 257 = syZ (14 + 1) 0 := by rw [z_sy, z_sy]; decide +kernel
    exact ⟨(), by rw [u]; rfl, by rw [u]; rfl, by rw [hs, h0, u], by rw [v]⟩
theorem M15_piece : PieceOk EtM 0 (27, pMi, specK 15) := by
  refine piece_loop tk.mixed (calls_envT tM_ok) (lok_envT _ _) lm_none (n := 60) (by kernel_rfl) (fun _ : Unit => 0) (fun _ j => j ≤ 257) (fun _ j => 257 - j) (sl := fun _ j => slM 15 j) (rl := fun _ j => rlM 15 j) (fun g hg => Nat.zero_le _) (fun g j hg hi => ?_)
  refine (M15_round j _ _).mpr ?_
  have hu := us_le 15 j
  rw [← z_us] at hu
  have h0 : (syZ 15 0).length = 92 := by rw [z_sy]; decide +kernel
  have hs := sy_len 15 j
  have pn := fun l => nC_plain l
  simp only [ofNat_eq, toNat_cast, Nat.zero_add, Nat.add_zero, Nat.mul_one, List.drop_zero, bCells_len, bCells_drop, bCells_take, bCells_app, bCells_one, bCells_plain, List.length_replicate, List.length_append, List.length_take, List.length_drop, List.take_length, and_true, true_and, and_self, decide_true, List.length_nil, List.length_cons, Nat.sub_zero, dB_mk, dB_ro, List.take_zero, nC_len, pn, E0, E1_eq, lsK]
  refine br_if (fun h => ?_) (fun h => ?_)
  · have hj : j < 257 := by omega
    have w1 : IntKind.i64.wrap ((j : Int) + 1) = ((j + 1 : Nat) : Int) := by rw [wr64_id (by unfold I64; omega)]; omega
    have e1 := us_suc 15 j
    have e2 := sy_suc 15 j
    rw [hI j hj]
    by_cases q : hLen j = 15
    · rw [if_pos q] at e1 e2
      have wu : ((usZ 15 (j + 1) : Nat) : Int) = IntKind.i64.wrap ((usZ 15 j : Nat) + 1) := by rw [e1, wr64_id (by unfold I64; omega)]; omega
      refine br_b (by simp [q]) (br_dec (by omega) (br_dec (by omega) ⟨rfl, j + 1, by omega, by omega, ?_, w1.symm, wu, by rw [e2, List.length_append]; rfl, ?_⟩))
      · rw [e1, wr64_id (by unfold I64; omega)]; omega
      · rw [e2, List.take_of_length_le (by rw [nC_len]; exact Nat.le_refl _)]; unfold nC; rw [List.map_append]; rfl
    · rw [if_neg q] at e1 e2
      exact br_nb (by simp; omega) ⟨j + 1, by omega, by omega, by rw [e1]; rfl, w1.symm, by rw [e1]; rfl, by rw [e2, List.append_nil], by rw [e2, List.append_nil]⟩
  · have : j = 257 := by omega
    subst this
    have u : usZ 15 257 = 3 := by rw [z_us]; decide +kernel
    have v : syZ 15 257 = syZ (15 + 1) 0 := by rw [z_sy, z_sy]; decide +kernel
    exact ⟨(), by rw [u]; rfl, by rw [u]; rfl, by rw [hs, h0, u], by rw [v]⟩
theorem M16_piece : PieceOk EtM 0 (27, pMi, specK 16) := by
  refine piece_loop tk.mixed (calls_envT tM_ok) (lok_envT _ _) lm_none (n := 60) (by kernel_rfl) (fun _ : Unit => 0) (fun _ j => j ≤ 257) (fun _ j => 257 - j) (sl := fun _ j => slM 16 j) (rl := fun _ j => rlM 16 j) (fun g hg => Nat.zero_le _) (fun g j hg hi => ?_)
  refine (M16_round j _ _).mpr ?_
  have hu := us_le 16 j
  rw [← z_us] at hu
  have h0 : (syZ 16 0).length = 95 := by rw [z_sy]; decide +kernel
  have hs := sy_len 16 j
  have pn := fun l => nC_plain l
  simp only [ofNat_eq, toNat_cast, Nat.zero_add, Nat.add_zero, Nat.mul_one, List.drop_zero, bCells_len, bCells_drop, bCells_take, bCells_app, bCells_one, bCells_plain, List.length_replicate, List.length_append, List.length_take, List.length_drop, List.take_length, and_true, true_and, and_self, decide_true, List.length_nil, List.length_cons, Nat.sub_zero, dB_mk, dB_ro, List.take_zero, nC_len, pn, E0, E1_eq, lsK]
  refine br_if (fun h => ?_) (fun h => ?_)
  · have hj : j < 257 := by omega
    have w1 : IntKind.i64.wrap ((j : Int) + 1) = ((j + 1 : Nat) : Int) := by rw [wr64_id (by unfold I64; omega)]; omega
    have e1 := us_suc 16 j
    have e2 := sy_suc 16 j
    rw [hI j hj]
    by_cases q : hLen j = 16
    · rw [if_pos q] at e1 e2
      have wu : ((usZ 16 (j + 1) : Nat) : Int) = IntKind.i64.wrap ((usZ 16 j : Nat) + 1) := by rw [e1, wr64_id (by unfold I64; omega)]; omega
      refine br_b (by simp [q]) (br_dec (by omega) (br_dec (by omega) ⟨rfl, j + 1, by omega, by omega, ?_, w1.symm, wu, by rw [e2, List.length_append]; rfl, ?_⟩))
      · rw [e1, wr64_id (by unfold I64; omega)]; omega
      · rw [e2, List.take_of_length_le (by rw [nC_len]; exact Nat.le_refl _)]; unfold nC; rw [List.map_append]; rfl
    · rw [if_neg q] at e1 e2
      exact br_nb (by simp; omega) ⟨j + 1, by omega, by omega, by rw [e1]; rfl, w1.symm, by rw [e1]; rfl, by rw [e2, List.append_nil], by rw [e2, List.append_nil]⟩
  · have : j = 257 := by omega
    subst this
    have u : usZ 16 257 = 0 := by rw [z_us]; decide +kernel
    have v : syZ 16 257 = syZ (16 + 1) 0 := by rw [z_sy, z_sy]; decide +kernel
    exact ⟨(), by rw [u]; rfl, by rw [u]; rfl, by rw [hs, h0, u], by rw [v]⟩
theorem M17_piece : PieceOk EtM 0 (27, pMi, specK 17) := by
  refine piece_loop tk.mixed (calls_envT tM_ok) (lok_envT _ _) lm_none (n := 60) (by kernel_rfl) (fun _ : Unit => 0) (fun _ j => j ≤ 257) (fun _ j => 257 - j) (sl := fun _ j => slM 17 j) (rl := fun _ j => rlM 17 j) (fun g hg => Nat.zero_le _) (fun g j hg hi => ?_)
  refine (M17_round j _ _).mpr ?_
  have hu := us_le 17 j
  rw [← z_us] at hu
  have h0 : (syZ 17 0).length = 95 := by rw [z_sy]; decide +kernel
  have hs := sy_len 17 j
  have pn := fun l => nC_plain l
  simp only [ofNat_eq, toNat_cast, Nat.zero_add, Nat.add_zero, Nat.mul_one, List.drop_zero, bCells_len, bCells_drop, bCells_take, bCells_app, bCells_one, bCells_plain, List.length_replicate, List.length_append, List.length_take, List.length_drop, List.take_length, and_true, true_and, and_self, decide_true, List.length_nil, List.length_cons, Nat.sub_zero, dB_mk, dB_ro, List.take_zero, nC_len, pn, E0, E1_eq, lsK]
  refine br_if (fun h => ?_) (fun h => ?_)
  · have hj : j < 257 := by omega
    have w1 : IntKind.i64.wrap ((j : Int) + 1) = ((j + 1 : Nat) : Int) := by rw [wr64_id (by unfold I64; omega)]; omega
    have e1 := us_suc 17 j
    have e2 := sy_suc 17 j
    rw [hI j hj]
    by_cases q : hLen j = 17
    · rw [if_pos q] at e1 e2
      have wu : ((usZ 17 (j + 1) : Nat) : Int) = IntKind.i64.wrap ((usZ 17 j : Nat) + 1) := by rw [e1, wr64_id (by unfold I64; omega)]; omega
      refine br_b (by simp [q]) (br_dec (by omega) (br_dec (by omega) ⟨rfl, j + 1, by omega, by omega, ?_, w1.symm, wu, by rw [e2, List.length_append]; rfl, ?_⟩))
      · rw [e1, wr64_id (by unfold I64; omega)]; omega
      · rw [e2, List.take_of_length_le (by rw [nC_len]; exact Nat.le_refl _)]; unfold nC; rw [List.map_append]; rfl
    · rw [if_neg q] at e1 e2
      exact br_nb (by simp; omega) ⟨j + 1, by omega, by omega, by rw [e1]; rfl, w1.symm, by rw [e1]; rfl, by rw [e2, List.append_nil], by rw [e2, List.append_nil]⟩
  · have : j = 257 := by omega
    subst this
    have u : usZ 17 257 = 0 := by rw [z_us]; decide +kernel
    have v : syZ 17 257 = syZ (17 + 1) 0 := by rw [z_sy, z_sy]; decide +kernel
    exact ⟨(), by rw [u]; rfl, by rw [u]; rfl, by rw [hs, h0, u], by rw [v]⟩
theorem M18_piece : PieceOk EtM 0 (27, pMi, specK 18) := by
  refine piece_loop tk.mixed (calls_envT tM_ok) (lok_envT _ _) lm_none (n := 60) (by kernel_rfl) (fun _ : Unit => 0) (fun _ j => j ≤ 257) (fun _ j => 257 - j) (sl := fun _ j => slM 18 j) (rl := fun _ j => rlM 18 j) (fun g hg => Nat.zero_le _) (fun g j hg hi => ?_)
  refine (M18_round j _ _).mpr ?_
  have hu := us_le 18 j
  rw [← z_us] at hu
  have h0 : (syZ 18 0).length = 95 := by rw [z_sy]; decide +kernel
  have hs := sy_len 18 j
  have pn := fun l => nC_plain l
  simp only [ofNat_eq, toNat_cast, Nat.zero_add, Nat.add_zero, Nat.mul_one, List.drop_zero, bCells_len, bCells_drop, bCells_take, bCells_app, bCells_one, bCells_plain, List.length_replicate, List.length_append, List.length_take, List.length_drop, List.take_length, and_true, true_and, and_self, decide_true, List.length_nil, List.length_cons, Nat.sub_zero, dB_mk, dB_ro, List.take_zero, nC_len, pn, E0, E1_eq, lsK]
  refine br_if (fun h => ?_) (fun h => ?_)
  · have hj : j < 257 := by omega
    have w1 : IntKind.i64.wrap ((j : Int) + 1) = ((j + 1 : Nat) : Int) := by rw [wr64_id (by unfold I64; omega)]; omega
    have e1 := us_suc 18 j
    have e2 := sy_suc 18 j
    rw [hI j hj]
    by_cases q : hLen j = 18
    · rw [if_pos q] at e1 e2
      have wu : ((usZ 18 (j + 1) : Nat) : Int) = IntKind.i64.wrap ((usZ 18 j : Nat) + 1) := by rw [e1, wr64_id (by unfold I64; omega)]; omega
      refine br_b (by simp [q]) (br_dec (by omega) (br_dec (by omega) ⟨rfl, j + 1, by omega, by omega, ?_, w1.symm, wu, by rw [e2, List.length_append]; rfl, ?_⟩))
      · rw [e1, wr64_id (by unfold I64; omega)]; omega
      · rw [e2, List.take_of_length_le (by rw [nC_len]; exact Nat.le_refl _)]; unfold nC; rw [List.map_append]; rfl
    · rw [if_neg q] at e1 e2
      exact br_nb (by simp; omega) ⟨j + 1, by omega, by omega, by rw [e1]; rfl, w1.symm, by rw [e1]; rfl, by rw [e2, List.append_nil], by rw [e2, List.append_nil]⟩
  · have : j = 257 := by omega
    subst this
    have u : usZ 18 257 = 0 := by rw [z_us]; decide +kernel
    have v : syZ 18 257 = syZ (18 + 1) 0 := by rw [z_sy, z_sy]; decide +kernel
    exact ⟨(), by rw [u]; rfl, by rw [u]; rfl, by rw [hs, h0, u], by rw [v]⟩
theorem M19_piece : PieceOk EtM 0 (27, pMi, specK 19) := by
  refine piece_loop tk.mixed (calls_envT tM_ok) (lok_envT _ _) lm_none (n := 60) (by kernel_rfl) (fun _ : Unit => 0) (fun _ j => j ≤ 257) (fun _ j => 257 - j) (sl := fun _ j => slM 19 j) (rl := fun _ j => rlM 19 j) (fun g hg => Nat.zero_le _) (fun g j hg hi => ?_)
  refine (M19_round j _ _).mpr ?_
  have hu := us_le 19 j
  rw [← z_us] at hu
  have h0 : (syZ 19 0).length = 95 := by rw [z_sy]; decide +kernel
  have hs := sy_len 19 j
  have pn := fun l => nC_plain l
  simp only [ofNat_eq, toNat_cast, Nat.zero_add, Nat.add_zero, Nat.mul_one, List.drop_zero, bCells_len, bCells_drop, bCells_take, bCells_app, bCells_one, bCells_plain, List.length_replicate, List.length_append, List.length_take, List.length_drop, List.take_length, and_true, true_and, and_self, decide_true, List.length_nil, List.length_cons, Nat.sub_zero, dB_mk, dB_ro, List.take_zero, nC_len, pn, E0, E1_eq, lsK]
  refine br_if (fun h => ?_) (fun h => ?_)
  · have hj : j < 257 := by omega
    have w1 : IntKind.i64.wrap ((j : Int) + 1) = ((j + 1 : Nat) : Int) := by rw [wr64_id (by unfold I64; omega)]; omega
    have e1 := us_suc 19 j
    have e2 := sy_suc 19 j
    rw [hI j hj]
    by_cases q : hLen j = 19
    · rw [if_pos q] at e1 e2
      have wu : ((usZ 19 (j + 1) : Nat) : Int) = IntKind.i64.wrap ((usZ 19 j : Nat) + 1) := by rw [e1, wr64_id (by unfold I64; omega)]; omega
      refine br_b (by simp [q]) (br_dec (by omega) (br_dec (by omega) ⟨rfl, j + 1, by omega, by omega, ?_, w1.symm, wu, by rw [e2, List.length_append]; rfl, ?_⟩))
      · rw [e1, wr64_id (by unfold I64; omega)]; omega
      · rw [e2, List.take_of_length_le (by rw [nC_len]; exact Nat.le_refl _)]; unfold nC; rw [List.map_append]; rfl
    · rw [if_neg q] at e1 e2
      exact br_nb (by simp; omega) ⟨j + 1, by omega, by omega, by rw [e1]; rfl, w1.symm, by rw [e1]; rfl, by rw [e2, List.append_nil], by rw [e2, List.append_nil]⟩
  · have : j = 257 := by omega
    subst this
    have u : usZ 19 257 = 3 := by rw [z_us]; decide +kernel
    have v : syZ 19 257 = syZ (19 + 1) 0 := by rw [z_sy, z_sy]; decide +kernel
    exact ⟨(), by rw [u]; rfl, by rw [u]; rfl, by rw [hs, h0, u], by rw [v]⟩
theorem M20_piece : PieceOk EtM 0 (27, pMi, specK 20) := by
  refine piece_loop tk.mixed (calls_envT tM_ok) (lok_envT _ _) lm_none (n := 60) (by kernel_rfl) (fun _ : Unit => 0) (fun _ j => j ≤ 257) (fun _ j => 257 - j) (sl := fun _ j => slM 20 j) (rl := fun _ j => rlM 20 j) (fun g hg => Nat.zero_le _) (fun g j hg hi => ?_)
  refine (M20_round j _ _).mpr ?_
  have hu := us_le 20 j
  rw [← z_us] at hu
  have h0 : (syZ 20 0).length = 98 := by rw [z_sy]; decide +kernel
  have hs := sy_len 20 j
  have pn := fun l => nC_plain l
  simp only [ofNat_eq, toNat_cast, Nat.zero_add, Nat.add_zero, Nat.mul_one, List.drop_zero, bCells_len, bCells_drop, bCells_take, bCells_app, bCells_one, bCells_plain, List.length_replicate, List.length_append, List.length_take, List.length_drop, List.take_length, and_true, true_and, and_self, decide_true, List.length_nil, List.length_cons, Nat.sub_zero, dB_mk, dB_ro, List.take_zero, nC_len, pn, E0, E1_eq, lsK]
  refine br_if (fun h => ?_) (fun h => ?_)
  · have hj : j < 257 := by omega
    have w1 : IntKind.i64.wrap ((j : Int) + 1) = ((j + 1 : Nat) : Int) := by rw [wr64_id (by unfold I64; omega)]; omega
    have e1 := us_suc 20 j
    have e2 := sy_suc 20 j
    rw [hI j hj]
    by_cases q : hLen j = 20
    · rw [if_pos q] at e1 e2
      have wu : ((usZ 20 (j + 1) : Nat) : Int) = IntKind.i64.wrap ((usZ 20 j : Nat) + 1) := by rw [e1, wr64_id (by unfold I64; omega)]; omega
      refine br_b (by simp [q]) (br_dec (by omega) (br_dec (by omega) ⟨rfl, j + 1, by omega, by omega, ?_, w1.symm, wu, by rw [e2, List.length_append]; rfl, ?_⟩))
      · rw [e1, wr64_id (by unfold I64; omega)]; omega
      · rw [e2, List.take_of_length_le (by rw [nC_len]; exact Nat.le_refl _)]; unfold nC; rw [List.map_append]; rfl
    · rw [if_neg q] at e1 e2
      exact br_nb (by simp; omega) ⟨j + 1, by omega, by omega, by rw [e1]; rfl, w1.symm, by rw [e1]; rfl, by rw [e2, List.append_nil], by rw [e2, List.append_nil]⟩
  · have : j = 257 := by omega
    subst this
    have u : usZ 20 257 = 8 := by rw [z_us]; decide +kernel
    have v : syZ 20 257 = syZ (20 + 1) 0 := by rw [z_sy, z_sy]; decide +kernel
    exact ⟨(), by rw [u]; rfl, by rw [u]; rfl, by rw [hs, h0, u], by rw [v]⟩
theorem M21_piece : PieceOk EtM 0 (27, pMi, specK 21) := by
  refine piece_loop tk.mixed (calls_envT tM_ok) (lok_envT _ _) lm_none (n := 60) (by kernel_rfl) (fun _ : Unit => 0) (fun _ j => j ≤ 257) (fun _ j => 257 - j) (sl := fun _ j => slM 21 j) (rl := fun _ j => rlM 21 j) (fun g hg => Nat.zero_le _) (fun g j hg hi => ?_)
  refine (M21_round j _ _).mpr ?_
  have hu := us_le 21 j
  rw [← z_us] at hu
  have h0 : (syZ 21 0).length = 106 := by rw [z_sy]; decide +kernel
  have hs := sy_len 21 j
  have pn := fun l => nC_plain l
  simp only [ofNat_eq, toNat_cast, Nat.zero_add, Nat.add_zero, Nat.mul_one, List.drop_zero, bCells_len, bCells_drop, bCells_take, bCells_app, bCells_one, bCells_plain, List.length_replicate, List.length_append, List.length_take, List.length_drop, List.take_length, and_true, true_and, and_self, decide_true, List.length_nil, List.length_cons, Nat.sub_zero, dB_mk, dB_ro, List.take_zero, nC_len, pn, E0, E1_eq, lsK]
  refine br_if (fun h => ?_) (fun h => ?_)
  · have hj : j < 257 := by omega
    have w1 : IntKind.i64.wrap ((j : Int) + 1) = ((j + 1 : Nat) : Int) := by rw [wr64_id (by unfold I64; omega)]; omega
    have e1 := us_suc 21 j
    have e2 := sy_suc 21 j
    rw [hI j hj]
    by_cases q : hLen j = 21
    · rw [if_pos q] at e1 e2
      have wu : ((usZ 21 (j + 1) : Nat) : Int) = IntKind.i64.wrap ((usZ 21 j : Nat) + 1) := by rw [e1, wr64_id (by unfold I64; omega)]; omega
      refine br_b (by simp [q]) (br_dec (by omega) (br_dec (by omega) ⟨rfl, j + 1, by omega, by omega, ?_, w1.symm, wu, by rw [e2, List.length_append]; rfl, ?_⟩))
      · rw [e1, wr64_id (by unfold I64; omega)]; omega
      · rw [e2, List.take_of_length_le (by rw [nC_len]; exact Nat.le_refl _)]; unfold nC; rw [List.map_append]; rfl
    · rw [if_neg q] at e1 e2
      exact br_nb (by simp; omega) ⟨j + 1, by omega, by omega, by rw [e1]; rfl, w1.symm, by rw [e1]; rfl, by rw [e2, List.append_nil], by rw [e2, List.append_nil]⟩
  · have : j = 257 := by omega
    subst this
    have u : usZ 21 257 = 13 := by rw [z_us]; decide +kernel
    have v : syZ 21 257 = syZ (21 + 1) 0 := by rw [z_sy, z_sy]; decide +kernel
    exact ⟨(), by rw [u]; rfl, by rw [u]; rfl, by rw [hs, h0, u], by rw [v]⟩
theorem M22_piece : PieceOk EtM 0 (27, pMi, specK 22) := by
  refine piece_loop tk.mixed (calls_envT tM_ok) (lok_envT _ _) lm_none (n := 60) (by kernel_rfl) (fun _ : Unit => 0) (fun _ j => j ≤ 257) (fun _ j => 257 - j) (sl := fun _ j => slM 22 j) (rl := fun _ j => rlM 22 j) (fun g hg => Nat.zero_le _) (fun g j hg hi => ?_)
  refine (M22_round j _ _).mpr ?_
  have hu := us_le 22 j
  rw [← z_us] at hu
  have h0 : (syZ 22 0).length = 119 := by rw [z_sy]; decide +kernel
  have hs := sy_len 22 j
  have pn := fun l => nC_plain l
  simp only [ofNat_eq, toNat_cast, Nat.zero_add, Nat.add_zero, Nat.mul_one, List.drop_zero, bCells_len, bCells_drop, bCells_take, bCells_app, bCells_one, bCells_plain, List.length_replicate, List.length_append, List.length_take, List.length_drop, List.take_length, and_true, true_and, and_self, decide_true, List.length_nil, List.length_cons, Nat.sub_zero, dB_mk, dB_ro, List.take_zero, nC_len, pn, E0, E1_eq, lsK]
  refine br_if (fun h => ?_) (fun h => ?_)
  · have hj : j < 257 := by omega
    have w1 : IntKind.i64.wrap ((j : Int) + 1) = ((j + 1 : Nat) : Int) := by rw [wr64_id (by unfold I64; omega)]; omega
    have e1 := us_suc 22 j
    have e2 := sy_suc 22 j
    rw [hI j hj]
    by_cases q : hLen j = 22
    · rw [if_pos q] at e1 e2
      have wu : ((usZ 22 (j + 1) : Nat) : Int) = IntKind.i64.wrap ((usZ 22 j : Nat) + 1) := by rw [e1, wr64_id (by unfold I64; omega)]; omega
      refine br_b (by simp [q]) (br_dec (by omega) (br_dec (by omega) ⟨rfl, j + 1, by omega, by omega, ?_, w1.symm, wu, by rw [e2, List.length_append]; rfl, ?_⟩))
      · rw [e1, wr64_id (by unfold I64; omega)]; omega
      · rw [e2, List.take_of_length_le (by rw [nC_len]; exact Nat.le_refl _)]; unfold nC; rw [List.map_append]; rfl
    · rw [if_neg q] at e1 e2
      exact br_nb (by simp; omega) ⟨j + 1, by omega, by omega, by rw [e1]; rfl, w1.symm, by rw [e1]; rfl, by rw [e2, List.append_nil], by rw [e2, List.append_nil]⟩
  · have : j = 257 := by omega
    subst this
    have u : usZ 22 257 = 26 := by rw [z_us]; decide +kernel
    have v : syZ 22 257 = syZ (22 + 1) 0 := by rw [z_sy, z_sy]; decide +kernel
    exact ⟨(), by rw [u]; rfl, by rw [u]; rfl, by rw [hs, h0, u], by rw [v]⟩
theorem M23_piece : PieceOk EtM 0 (27, pMi, specK 23) := by
  refine piece_loop tk.mixed (calls_envT tM_ok) (lok_envT _ _) lm_none (n := 60) (by kernel_rfl) (fun _ : Unit => 0) (fun _ j => j ≤ 257) (fun _ j => 257 - j) (sl := fun _ j => slM 23 j) (rl := fun _ j => rlM 23 j) (fun g hg => Nat.zero_le _) (fun g j hg hi => ?_)
  refine (M23_round j _ _).mpr ?_
  have hu := us_le 23 j
  rw [← z_us] at hu
  have h0 : (syZ 23 0).length = 145 := by rw [z_sy]; decide +kernel
  have hs := sy_len 23 j
  have pn := fun l => nC_plain l
  simp only [ofNat_eq, toNat_cast, Nat.zero_add, Nat.add_zero, Nat.mul_one, List.drop_zero, bCells_len, bCells_drop, bCells_take, bCells_app, bCells_one, bCells_plain, List.length_replicate, List.length_append, List.length_take, List.length_drop, List.take_length, and_true, true_and, and_self, decide_true, List.length_nil, List.length_cons, Nat.sub_zero, dB_mk, dB_ro, List.take_zero, nC_len, pn, E0, E1_eq, lsK]
  refine br_if (fun h => ?_) (fun h => ?_)
  · have hj : j < 257 := by omega
    have w1 : IntKind.i64.wrap ((j : Int) + 1) = ((j + 1 : Nat) : Int) := by rw [wr64_id (by unfold I64; omega)]; omega
    have e1 := us_suc 23 j
    have e2 := sy_suc 23 j
    rw [hI j hj]
    by_cases q : hLen j = 23
    · rw [if_pos q] at e1 e2
      have wu : ((usZ 23 (j + 1) : Nat) : Int) = IntKind.i64.wrap ((usZ 23 j : Nat) + 1) := by rw [e1, wr64_id (by unfold I64; omega)]; omega
      refine br_b (by simp [q]) (br_dec (by omega) (br_dec (by omega) ⟨rfl, j + 1, by omega, by omega, ?_, w1.symm, wu, by rw [e2, List.length_append]; rfl, ?_⟩))
      · rw [e1, wr64_id (by unfold I64; omega)]; omega
      · rw [e2, List.take_of_length_le (by rw [nC_len]; exact Nat.le_refl _)]; unfold nC; rw [List.map_append]; rfl
    · rw [if_neg q] at e1 e2
      exact br_nb (by simp; omega) ⟨j + 1, by omega, by omega, by rw [e1]; rfl, w1.symm, by rw [e1]; rfl, by rw [e2, List.append_nil], by rw [e2, List.append_nil]⟩
  · have : j = 257 := by omega
    subst this
    have u : usZ 23 257 = 29 := by rw [z_us]; decide +kernel
    have v : syZ 23 257 = syZ (23 + 1) 0 := by rw [z_sy, z_sy]; decide +kernel
    exact ⟨(), by rw [u]; rfl, by rw [u]; rfl, by rw [hs, h0, u], by rw [v]⟩
theorem M24_piece : PieceOk EtM 0 (27, pMi, specK 24) := by
  refine piece_loop tk.mixed (calls_envT tM_ok) (lok_envT _ _) lm_none (n := 60) (by kernel_rfl) (fun _ : Unit => 0) (fun _ j => j ≤ 257) (fun _ j => 257 - j) (sl := fun _ j => slM 24 j) (rl := fun _ j => rlM 24 j) (fun g hg => Nat.zero_le _) (fun g j hg hi => ?_)
  refine (M24_round j _ _).mpr ?_
  have hu := us_le 24 j
  rw [← z_us] at hu
  have h0 : (syZ 24 0).length = 174 := by rw [z_sy]; decide +kernel
  have hs := sy_len 24 j
  have pn := fun l => nC_plain l
  simp only [ofNat_eq, toNat_cast, Nat.zero_add, Nat.add_zero, Nat.mul_one, List.drop_zero, bCells_len, bCells_drop, bCells_take, bCells_app, bCells_one, bCells_plain, List.length_replicate, List.length_append, List.length_take, List.length_drop, List.take_length, and_true, true_and, and_self, decide_true, List.length_nil, List.length_cons, Nat.sub_zero, dB_mk, dB_ro, List.take_zero, nC_len, pn, E0, E1_eq, lsK]
  refine br_if (fun h => ?_) (fun h => ?_)
  · have hj : j < 257 := by omega
    have w1 : IntKind.i64.wrap ((j : Int) + 1) = ((j + 1 : Nat) : Int) := by rw [wr64_id (by unfold I64; omega)]; omega
    have e1 := us_suc 24 j
    have e2 := sy_suc 24 j
    rw [hI j hj]
    by_cases q : hLen j = 24
    · rw [if_pos q] at e1 e2
      have wu : ((usZ 24 (j + 1) : Nat) : Int) = IntKind.i64.wrap ((usZ 24 j : Nat) + 1) := by rw [e1, wr64_id (by unfold I64; omega)]; omega
      refine br_b (by simp [q]) (br_dec (by omega) (br_dec (by omega) ⟨rfl, j + 1, by omega, by omega, ?_, w1.symm, wu, by rw [e2, List.length_append]; rfl, ?_⟩))
      · rw [e1, wr64_id (by unfold I64; omega)]; omega
      · rw [e2, List.take_of_length_le (by rw [nC_len]; exact Nat.le_refl _)]; unfold nC; rw [List.map_append]; rfl
    · rw [if_neg q] at e1 e2
      exact br_nb (by simp; omega) ⟨j + 1, by omega, by omega, by rw [e1]; rfl, w1.symm, by rw [e1]; rfl, by rw [e2, List.append_nil], by rw [e2, List.append_nil]⟩
  · have : j = 257 := by omega
    subst this
    have u : usZ 24 257 = 12 := by rw [z_us]; decide +kernel
    have v : syZ 24 257 = syZ (24 + 1) 0 := by rw [z_sy, z_sy]; decide +kernel
    exact ⟨(), by rw [u]; rfl, by rw [u]; rfl, by rw [hs, h0, u], by rw [v]⟩
theorem M25_piece : PieceOk EtM 0 (27, pMi, specK 25) := by
  refine piece_loop tk.mixed (calls_envT tM_ok) (lok_envT _ _) lm_none (n := 60) (by kernel_rfl) (fun _ : Unit => 0) (fun _ j => j ≤ 257) (fun _ j => 257 - j) (sl := fun _ j => slM 25 j) (rl := fun _ j => rlM 25 j) (fun g hg => Nat.zero_le _) (fun g j hg hi => ?_)
  refine (M25_round j _ _).mpr ?_
  have hu := us_le 25 j
  rw [← z_us] at hu
  have h0 : (syZ 25 0).length = 186 := by rw [z_sy]; decide +kernel
  have hs := sy_len 25 j
  have pn := fun l => nC_plain l
  simp only [ofNat_eq, toNat_cast, Nat.zero_add, Nat.add_zero, Nat.mul_one, List.drop_zero, bCells_len, bCells_drop, bCells_take, bCells_app, bCells_one, bCells_plain, List.length_replicate, List.length_append, List.length_take, List.length_drop, List.take_length, and_true, true_and, and_self, decide_true, List.length_nil, List.length_cons, Nat.sub_zero, dB_mk, dB_ro, List.take_zero, nC_len, pn, E0, E1_eq, lsK]
  refine br_if (fun h => ?_) (fun h => ?_)
  · have hj : j < 257 := by omega
    have w1 : IntKind.i64.wrap ((j : Int) + 1) = ((j + 1 : Nat) : Int) := by rw [wr64_id (by unfold I64; omega)]; omega
    have e1 := us_suc 25 j
    have e2 := sy_suc 25 j
    rw [hI j hj]
    by_cases q : hLen j = 25
    · rw [if_pos q] at e1 e2
      have wu : ((usZ 25 (j + 1) : Nat) : Int) = IntKind.i64.wrap ((usZ 25 j : Nat) + 1) := by rw [e1, wr64_id (by unfold I64; omega)]; omega
      refine br_b (by simp [q]) (br_dec (by omega) (br_dec (by omega) ⟨rfl, j + 1, by omega, by omega, ?_, w1.symm, wu, by rw [e2, List.length_append]; rfl, ?_⟩))
      · rw [e1, wr64_id (by unfold I64; omega)]; omega
      · rw [e2, List.take_of_length_le (by rw [nC_len]; exact Nat.le_refl _)]; unfold nC; rw [List.map_append]; rfl
    · rw [if_neg q] at e1 e2
      exact br_nb (by simp; omega) ⟨j + 1, by omega, by omega, by rw [e1]; rfl, w1.symm, by rw [e1]; rfl, by rw [e2, List.append_nil], by rw [e2, List.append_nil]⟩
  · have : j = 257 := by omega
    subst this
    have u : usZ 25 257 = 4 := by rw [z_us]; decide +kernel
    have v : syZ 25 257 = syZ (25 + 1) 0 := by rw [z_sy, z_sy]; decide +kernel
    exact ⟨(), by rw [u]; rfl, by rw [u]; rfl, by rw [hs, h0, u], by rw [v]⟩
theorem M26_piece : PieceOk EtM 0 (27, pMi, specK 26) := by
  refine piece_loop tk.mixed (calls_envT tM_ok) (lok_envT _ _) lm_none (n := 60) (by kernel_rfl) (fun _ : Unit => 0) (fun _ j => j ≤ 257) (fun _ j => 257 - j) (sl := fun _ j => slM 26 j) (rl := fun _ j => rlM 26 j) (fun g hg => Nat.zero_le _) (fun g j hg hi => ?_)
  refine (M26_round j _ _).mpr ?_
  have hu := us_le 26 j
  rw [← z_us] at hu
  have h0 : (syZ 26 0).length = 190 := by rw [z_sy]; decide +kernel
  have hs := sy_len 26 j
  have pn := fun l => nC_plain l
  simp only [ofNat_eq, toNat_cast, Nat.zero_add, Nat.add_zero, Nat.mul_one, List.drop_zero, bCells_len, bCells_drop, bCells_take, bCells_app, bCells_one, bCells_plain, List.length_replicate, List.length_append, List.length_take, List.length_drop, List.take_length, and_true, true_and, and_self, decide_true, List.length_nil, List.length_cons, Nat.sub_zero, dB_mk, dB_ro, List.take_zero, nC_len, pn, E0, E1_eq, lsK]
  refine br_if (fun h => ?_) (fun h => ?_)
  · have hj : j < 257 := by omega
    have w1 : IntKind.i64.wrap ((j : Int) + 1) = ((j + 1 : Nat) : Int) := by rw [wr64_id (by unfold I64; omega)]; omega
    have e1 := us_suc 26 j
    have e2 := sy_suc 26 j
    rw [hI j hj]
    by_cases q : hLen j = 26
    · rw [if_pos q] at e1 e2
      have wu : ((usZ 26 (j + 1) : Nat) : Int) = IntKind.i64.wrap ((usZ 26 j : Nat) + 1) := by rw [e1, wr64_id (by unfold I64; omega)]; omega
      refine br_b (by simp [q]) (br_dec (by omega) (br_dec (by omega) ⟨rfl, j + 1, by omega, by omega, ?_, w1.symm, wu, by rw [e2, List.length_append]; rfl, ?_⟩))
      · rw [e1, wr64_id (by unfold I64; omega)]; omega
      · rw [e2, List.take_of_length_le (by rw [nC_len]; exact Nat.le_refl _)]; unfold nC; rw [List.map_append]; rfl
    · rw [if_neg q] at e1 e2
      exact br_nb (by simp; omega) ⟨j + 1, by omega, by omega, by rw [e1]; rfl, w1.symm, by rw [e1]; rfl, by rw [e2, List.append_nil], by rw [e2, List.append_nil]⟩
  · have : j = 257 := by omega
    subst this
    have u : usZ 26 257 = 15 := by rw [z_us]; decide +kernel
    have v : syZ 26 257 = syZ (26 + 1) 0 := by rw [z_sy, z_sy]; decide +kernel
    exact ⟨(), by rw [u]; rfl, by rw [u]; rfl, by rw [hs, h0, u], by rw [v]⟩
theorem M27_piece : PieceOk EtM 0 (27, pMi, specK 27) := by
  refine piece_loop tk.mixed (calls_envT tM_ok) (lok_envT _ _) lm_none (n := 60) (by kernel_rfl) (fun _ : Unit => 0) (fun _ j => j ≤ 257) (fun _ j => 257 - j) (sl := fun _ j => slM 27 j) (rl := fun _ j => rlM 27 j) (fun g hg => Nat.zero_le _) (fun g j hg hi => ?_)
  refine (M27_round j _ _).mpr ?_
  have hu := us_le 27 j
  rw [← z_us] at hu
  have h0 : (syZ 27 0).length = 205 := by rw [z_sy]; decide +kernel
  have hs := sy_len 27 j
  have pn := fun l => nC_plain l
  simp only [ofNat_eq, toNat_cast, Nat.zero_add, Nat.add_zero, Nat.mul_one, List.drop_zero, bCells_len, bCells_drop, bCells_take, bCells_app, bCells_one, bCells_plain, List.length_replicate, List.length_append, List.length_take, List.length_drop, List.take_length, and_true, true_and, and_self, decide_true, List.length_nil, List.length_cons, Nat.sub_zero, dB_mk, dB_ro, List.take_zero, nC_len, pn, E0, E1_eq, lsK]
  refine br_if (fun h => ?_) (fun h => ?_)
  · have hj : j < 257 := by omega
    have w1 : IntKind.i64.wrap ((j : Int) + 1) = ((j + 1 : Nat) : Int) := by rw [wr64_id (by unfold I64; omega)]; omega
    have e1 := us_suc 27 j
    have e2 := sy_suc 27 j
    rw [hI j hj]
    by_cases q : hLen j = 27
    · rw [if_pos q] at e1 e2
      have wu : ((usZ 27 (j + 1) : Nat) : Int) = IntKind.i64.wrap ((usZ 27 j : Nat) + 1) := by rw [e1, wr64_id (by unfold I64; omega)]; omega
      refine br_b (by simp [q]) (br_dec (by omega) (br_dec (by omega) ⟨rfl, j + 1, by omega, by omega, ?_, w1.symm, wu, by rw [e2, List.length_append]; rfl, ?_⟩))
      · rw [e1, wr64_id (by unfold I64; omega)]; omega
      · rw [e2, List.take_of_length_le (by rw [nC_len]; exact Nat.le_refl _)]; unfold nC; rw [List.map_append]; rfl
    · rw [if_neg q] at e1 e2
      exact br_nb (by simp; omega) ⟨j + 1, by omega, by omega, by rw [e1]; rfl, w1.symm, by rw [e1]; rfl, by rw [e2, List.append_nil], by rw [e2, List.append_nil]⟩
  · have : j = 257 := by omega
    subst this
    have u : usZ 27 257 = 19 := by rw [z_us]; decide +kernel
    have v : syZ 27 257 = syZ (27 + 1) 0 := by rw [z_sy, z_sy]; decide +kernel
    exact ⟨(), by rw [u]; rfl, by rw [u]; rfl, by rw [hs, h0, u], by rw [v]⟩
theorem M28_piece : PieceOk EtM 0 (27, pMi, specK 28) := by
  refine piece_loop tk.mixed (calls_envT tM_ok) (lok_envT _ _) lm_none (n := 60) (by kernel_rfl) (fun _ : Unit => 0) (fun _ j => j ≤ 257) (fun _ j => 257 - j) (sl := fun _ j => slM 28 j) (rl := fun _ j => rlM 28 j) (fun g hg => Nat.zero_le _) (fun g j hg hi => ?_)
  refine (M28_round j _ _).mpr ?_
  have hu := us_le 28 j
  rw [← z_us] at hu
  have h0 : (syZ 28 0).length = 224 := by rw [z_sy]; decide +kernel
  have hs := sy_len 28 j
  have pn := fun l => nC_plain l
  simp only [ofNat_eq, toNat_cast, Nat.zero_add, Nat.add_zero, Nat.mul_one, List.drop_zero, bCells_len, bCells_drop, bCells_take, bCells_app, bCells_one, bCells_plain, List.length_replicate, List.length_append, List.length_take, List.length_drop, List.take_length, and_true, true_and, and_self, decide_true, List.length_nil, List.length_cons, Nat.sub_zero, dB_mk, dB_ro, List.take_zero, nC_len, pn, E0, E1_eq, lsK]
  refine br_if (fun h => ?_) (fun h => ?_)
  · have hj : j < 257 := by omega
    have w1 : IntKind.i64.wrap ((j : Int) + 1) = ((j + 1 : Nat) : Int) := by rw [wr64_id (by unfold I64; omega)]; omega
    have e1 := us_suc 28 j
    have e2 := sy_suc 28 j
    rw [hI j hj]
    by_cases q : hLen j = 28
    · rw [if_pos q] at e1 e2
      have wu : ((usZ 28 (j + 1) : Nat) : Int) = IntKind.i64.wrap ((usZ 28 j : Nat) + 1) := by rw [e1, wr64_id (by unfold I64; omega)]; omega
      refine br_b (by simp [q]) (br_dec (by omega) (br_dec (by omega) ⟨rfl, j + 1, by omega, by omega, ?_, w1.symm, wu, by rw [e2, List.length_append]; rfl, ?_⟩))
      · rw [e1, wr64_id (by unfold I64; omega)]; omega
      · rw [e2, List.take_of_length_le (by rw [nC_len]; exact Nat.le_refl _)]; unfold nC; rw [List.map_append]; rfl
    · rw [if_neg q] at e1 e2
      exact br_nb (by simp; omega) ⟨j + 1, by omega, by omega, by rw [e1]; rfl, w1.symm, by rw [e1]; rfl, by rw [e2, List.append_nil], by rw [e2, List.append_nil]⟩
  · have : j = 257 := by omega
    subst this
    have u : usZ 28 257 = 29 := by rw [z_us]; decide +kernel
    have v : syZ 28 257 = syZ (28 + 1) 0 := by rw [z_sy, z_sy]; decide +kernel
    exact ⟨(), by rw [u]; rfl, by rw [u]; rfl, by rw [hs, h0, u], by rw [v]⟩
theorem M29_piece : PieceOk EtM 0 (27, pMi, specK 29) := by
  refine piece_loop tk.mixed (calls_envT tM_ok) (lok_envT _ _) lm_none (n := 60) (by kernel_rfl) (fun _ : Unit => 0) (fun _ j => j ≤ 257) (fun _ j => 257 - j) (sl := fun _ j => slM 29 j) (rl := fun _ j => rlM 29 j) (fun g hg => Nat.zero_le _) (fun g j hg hi => ?_)
  refine (M29_round j _ _).mpr ?_
  have hu := us_le 29 j
  rw [← z_us] at hu
  have h0 : (syZ 29 0).length = 253 := by rw [z_sy]; decide +kernel
  have hs := sy_len 29 j
  have pn := fun l => nC_plain l
  simp only [ofNat_eq, toNat_cast, Nat.zero_add, Nat.add_zero, Nat.mul_one, List.drop_zero, bCells_len, bCells_drop, bCells_take, bCells_app, bCells_one, bCells_plain, List.length_replicate, List.length_append, List.length_take, List.length_drop, List.take_length, and_true, true_and, and_self, decide_true, List.length_nil, List.length_cons, Nat.sub_zero, dB_mk, dB_ro, List.take_zero, nC_len, pn, E0, E1_eq, lsK]
  refine br_if (fun h => ?_) (fun h => ?_)
  · have hj : j < 257 := by omega
    have w1 : IntKind.i64.wrap ((j : Int) + 1) = ((j + 1 : Nat) : Int) := by rw [wr64_id (by unfold I64; omega)]; omega
    have e1 := us_suc 29 j
    have e2 := sy_suc 29 j
    rw [hI j hj]
    by_cases q : hLen j = 29
    · rw [if_pos q] at e1 e2
      have wu : ((usZ 29 (j + 1) : Nat) : Int) = IntKind.i64.wrap ((usZ 29 j : Nat) + 1) := by rw [e1, wr64_id (by unfold I64; omega)]; omega
      refine br_b (by simp [q]) (br_dec (by omega) (br_dec (by omega) ⟨rfl, j + 1, by omega, by omega, ?_, w1.symm, wu, by rw [e2, List.length_append]; rfl, ?_⟩))
      · rw [e1, wr64_id (by unfold I64; omega)]; omega
      · rw [e2, List.take_of_length_le (by rw [nC_len]; exact Nat.le_refl _)]; unfold nC; rw [List.map_append]; rfl
    · rw [if_neg q] at e1 e2
      exact br_nb (by simp; omega) ⟨j + 1, by omega, by omega, by rw [e1]; rfl, w1.symm, by rw [e1]; rfl, by rw [e2, List.append_nil], by rw [e2, List.append_nil]⟩
  · have : j = 257 := by omega
    subst this
    have u : usZ 29 257 = 0 := by rw [z_us]; decide +kernel
    have v : syZ 29 257 = syZ (29 + 1) 0 := by rw [z_sy, z_sy]; decide +kernel
    exact ⟨(), by rw [u]; rfl, by rw [u]; rfl, by rw [hs, h0, u], by rw [v]⟩
theorem M30_piece : PieceOk EtM 0 (27, pMi, specK 30) := by
  refine piece_loop tk.mixed (calls_envT tM_ok) (lok_envT _ _) lm_none (n := 60) (by kernel_rfl) (fun _ : Unit => 0) (fun _ j => j ≤ 257) (fun _ j => 257 - j) (sl := fun _ j => slM 30 j) (rl := fun _ j => rlM 30 j) (fun g hg => Nat.zero_le _) (fun g j hg hi => ?_)
  refine (M30_round j _ _).mpr ?_
  have hu := us_le 30 j
  rw [← z_us] at hu
  have h0 : (syZ 30 0).length = 253 := by rw [z_sy]; decide +kernel
  have hs := sy_len 30 j
  have pn := fun l => nC_plain l
  simp only [ofNat_eq, toNat_cast, Nat.zero_add, Nat.add_zero, Nat.mul_one, List.drop_zero, bCells_len, bCells_drop, bCells_take, bCells_app, bCells_one, bCells_plain, List.length_replicate, List.length_append, List.length_take, List.length_drop, List.take_length, and_true, true_and, and_self, decide_true, List.length_nil, List.length_cons, Nat.sub_zero, dB_mk, dB_ro, List.take_zero, nC_len, pn, E0, E1_eq, lsK]
  refine br_if (fun h => ?_) (fun h => ?_)
  · have hj : j < 257 := by omega
    have w1 : IntKind.i64.wrap ((j : Int) + 1) = ((j + 1 : Nat) : Int) := by rw [wr64_id (by unfold I64; omega)]; omega
    have e1 := us_suc 30 j
    have e2 := sy_suc 30 j
    rw [hI j hj]
    by_cases q : hLen j = 30
    · rw [if_pos q] at e1 e2
      have wu : ((usZ 30 (j + 1) : Nat) : Int) = IntKind.i64.wrap ((usZ 30 j : Nat) + 1) := by rw [e1, wr64_id (by unfold I64; omega)]; omega
      refine br_b (by simp [q]) (br_dec (by omega) (br_dec (by omega) ⟨rfl, j + 1, by omega, by omega, ?_, w1.symm, wu, by rw [e2, List.length_append]; rfl, ?_⟩))
      · rw [e1, wr64_id (by unfold I64; omega)]; omega
      · rw [e2, List.take_of_length_le (by rw [nC_len]; exact Nat.le_refl _)]; unfold nC; rw [List.map_append]; rfl
    · rw [if_neg q] at e1 e2
      exact br_nb (by simp; omega) ⟨j + 1, by omega, by omega, by rw [e1]; rfl, w1.symm, by rw [e1]; rfl, by rw [e2, List.append_nil], by rw [e2, List.append_nil]⟩
  · have : j = 257 := by omega
    subst this
    have u : usZ 30 257 = 4 := by rw [z_us]; decide +kernel
    have v : syZ 30 257 = syZ (30 + 1) 0 := by rw [z_sy, z_sy]; decide +kernel
    exact ⟨(), by rw [u]; rfl, by rw [u]; rfl, by rw [hs, h0, u], by rw [v]⟩
end Go.Proofs.Ytbpeollodpjicaa.md
