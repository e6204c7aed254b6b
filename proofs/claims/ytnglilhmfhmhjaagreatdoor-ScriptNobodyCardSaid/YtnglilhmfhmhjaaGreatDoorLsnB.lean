/- Places where nobody is. -/
import Derived.Test.YtnglilhmfhmhjaaGreatDoorSz9
import Derived.Test.YtnglilhmfhmhjaaGreatDoorRows
import Derived.Test.YtnglilhmfhmhjaaGreatDoorLsnA
set_option maxRecDepth 20000
set_option linter.unusedSimpArgs false
set_option linter.unusedVariables false
namespace Go.Proofs.YtnglilhmfhmhjaaGreatDoor.sn
open Go Go.Ev Go.Sy Go.RowKit Go.Proofs.YtnglilhmfhmhjaaGreatDoor.gl Go.Proofs.YtnglilhmfhmhjaaGreatDoor.tk
def plN : List Value := [.pointer none, .int .i64 0, .slice none 0 0, .pointer none, .int .i64 0, .slice none 0 0, .pointer none, .int .i64 0, .slice none 0 0, .pointer none, .int .i64 0, .slice none 0 0, .pointer none, .int .i64 0, .slice none 0 0, .pointer none, .int .i64 0, .slice none 0 0, .pointer none, .int .i64 0, .slice none 0 0, .pointer none, .int .i64 0, .slice none 0 0]
def rPN : Row := ⟨plN, true, .cells true⟩
noncomputable def eAt : EntM := entC 29 fun a r => match a, r with
  | [.slice (some ⟨0, 0, none⟩) 8 3, .int .i64 n], [⟨cells, true, .cells true⟩] => some (cells = plN, .pointer none, [])
  | _, _ => none
noncomputable def cutL (fs : List FuncId) : FuncId → List Nat → Option Sy.Spec := fun f p => match p with | [] => bif fs.any (Nat.beq f) then some (fun _ _ _ _ => False) else none | _ => none
noncomputable def envCut (E : Env) (fs : List FuncId) : Env := { E with L := cutL fs }
noncomputable abbrev E0l : Env := envTl Tryz.prog [] fun _ _ _ => none
theorem cut_calls {P : Program} {E : Env} {fs : List FuncId} (h : CallsOk P (oOf E)) : CallsOk P (oOf (envCut E fs)) := h
theorem cut_lok {E : Env} {fs : List FuncId} : LOk (envCut E fs) := fun f p spec fn c0 c hl _ _ _ fr u h K hs => by
  have hl : cutL fs f p = some spec := hl
  unfold cutL at hl
  split at hl
  · cases hb : fs.any (Nat.beq f) with
    | true => rw [hb] at hl; simp only [cond_true, Option.some.injEq] at hl; subst hl; exact hs.elim
    | false => rw [hb] at hl; simp at hl
  · simp at hl
theorem no_ok : CallsOk Tryz.prog (fun _ _ _ => none) := fun _ _ _ _ _ _ _ _ _ he => by simp at he
theorem At_vc (n : Int) : mcall E0 noM 60 29 [.slice (some ⟨0, 0, none⟩) 8 3, .int .i64 n] ⟨mkR (nums 0 [rPN]), 1⟩ (retIs 1 (.pointer none) [rPN]) =
  (br (decide (n < (0 : Int))) ((Eq (α := List Value) ([Value.pointer none, Value.int IntKind.i64 (0 : Int), Value.slice none 0 0, Value.pointer none, Value.int IntKind.i64
  (0 : Int), Value.slice none 0 0, Value.pointer none, Value.int IntKind.i64 (0 : Int), Value.slice none 0 0, Value.pointer none, Value.int IntKind.i64 (0 : Int),
  Value.slice none 0 0, Value.pointer none, Value.int IntKind.i64 (0 : Int), Value.slice none 0 0, Value.pointer none, Value.int IntKind.i64 (0 : Int), Value.slice none 0 0,
  Value.pointer none, Value.int IntKind.i64 (0 : Int), Value.slice none 0 0, Value.pointer none, Value.int IntKind.i64 (0 : Int), Value.slice none 0 0]) ([Value.pointer
  none, Value.int IntKind.i64 (0 : Int), Value.slice none 0 0, Value.pointer none, Value.int IntKind.i64 (0 : Int), Value.slice none 0 0, Value.pointer none, Value.int
  IntKind.i64 (0 : Int), Value.slice none 0 0, Value.pointer none, Value.int IntKind.i64 (0 : Int), Value.slice none 0 0, Value.pointer none, Value.int IntKind.i64 (0 :
  Int), Value.slice none 0 0, Value.pointer none, Value.int IntKind.i64 (0 : Int), Value.slice none 0 0, Value.pointer none, Value.int IntKind.i64 (0 : Int), Value.slice
  none 0 0, Value.pointer none, Value.int IntKind.i64 (0 : Int), Value.slice none 0 0])) /\ ((Plain plN) /\ True)) (br (decide (n ≥ (8 : Int))) ((Eq (α := List Value)
  ([Value.pointer none, Value.int IntKind.i64 (0 : Int), Value.slice none 0 0, Value.pointer none, Value.int IntKind.i64 (0 : Int), Value.slice none 0 0, Value.pointer none,
  Value.int IntKind.i64 (0 : Int), Value.slice none 0 0, Value.pointer none, Value.int IntKind.i64 (0 : Int), Value.slice none 0 0, Value.pointer none, Value.int IntKind.i64
  (0 : Int), Value.slice none 0 0, Value.pointer none, Value.int IntKind.i64 (0 : Int), Value.slice none 0 0, Value.pointer none, Value.int IntKind.i64 (0 : Int),
  Value.slice none 0 0, Value.pointer none, Value.int IntKind.i64 (0 : Int), Value.slice none 0 0]) ([Value.pointer none, Value.int IntKind.i64 (0 : Int), Value.slice none 0
  0, Value.pointer none, Value.int IntKind.i64 (0 : Int), Value.slice none 0 0, Value.pointer none, Value.int IntKind.i64 (0 : Int), Value.slice none 0 0, Value.pointer
  none, Value.int IntKind.i64 (0 : Int), Value.slice none 0 0, Value.pointer none, Value.int IntKind.i64 (0 : Int), Value.slice none 0 0, Value.pointer none, Value.int
  IntKind.i64 (0 : Int), Value.slice none 0 0, Value.pointer none, Value.int IntKind.i64 (0 : Int), Value.slice none 0 0, Value.pointer none, Value.int IntKind.i64 (0 :
  Int), Value.slice none 0 0])) /\ ((Plain plN) /\ True)) (br (decide ((0 : Int) <= n /\ n < (8 : Int))) False False))) := by kernel_rfl
theorem At_0 (u : Unit) : mcall E0l noM 60 29 [.slice (some ⟨0, 0, none⟩) 8 3, .int .i64 0] ⟨mkR (nums 0 [rPN]), 1⟩ (retIs 1 (.pointer none) [rPN]) =
  ((Eq (α := List Value) ([Value.pointer none, Value.int IntKind.i64 (0 : Int), Value.slice none 0 0, Value.pointer none, Value.int IntKind.i64 (0 : Int), Value.slice none 0
  0, Value.pointer none, Value.int IntKind.i64 (0 : Int), Value.slice none 0 0, Value.pointer none, Value.int IntKind.i64 (0 : Int), Value.slice none 0 0, Value.pointer
  none, Value.int IntKind.i64 (0 : Int), Value.slice none 0 0, Value.pointer none, Value.int IntKind.i64 (0 : Int), Value.slice none 0 0, Value.pointer none, Value.int
  IntKind.i64 (0 : Int), Value.slice none 0 0, Value.pointer none, Value.int IntKind.i64 (0 : Int), Value.slice none 0 0]) ([Value.pointer none, Value.int IntKind.i64 (0 :
  Int), Value.slice none 0 0, Value.pointer none, Value.int IntKind.i64 (0 : Int), Value.slice none 0 0, Value.pointer none, Value.int IntKind.i64 (0 : Int), Value.slice
  none 0 0, Value.pointer none, Value.int IntKind.i64 (0 : Int), Value.slice none 0 0, Value.pointer none, Value.int IntKind.i64 (0 : Int), Value.slice none 0 0,
  Value.pointer none, Value.int IntKind.i64 (0 : Int), Value.slice none 0 0, Value.pointer none, Value.int IntKind.i64 (0 : Int), Value.slice none 0 0, Value.pointer none,
  Value.int IntKind.i64 (0 : Int), Value.slice none 0 0])) /\ ((Plain plN) /\ True)) := by kernel_rfl
theorem At_1 (u : Unit) : mcall E0l noM 60 29 [.slice (some ⟨0, 0, none⟩) 8 3, .int .i64 1] ⟨mkR (nums 0 [rPN]), 1⟩ (retIs 1 (.pointer none) [rPN]) =
  ((Eq (α := List Value) ([Value.pointer none, Value.int IntKind.i64 (0 : Int), Value.slice none 0 0, Value.pointer none, Value.int IntKind.i64 (0 : Int), Value.slice none 0
  0, Value.pointer none, Value.int IntKind.i64 (0 : Int), Value.slice none 0 0, Value.pointer none, Value.int IntKind.i64 (0 : Int), Value.slice none 0 0, Value.pointer
  none, Value.int IntKind.i64 (0 : Int), Value.slice none 0 0, Value.pointer none, Value.int IntKind.i64 (0 : Int), Value.slice none 0 0, Value.pointer none, Value.int
  IntKind.i64 (0 : Int), Value.slice none 0 0, Value.pointer none, Value.int IntKind.i64 (0 : Int), Value.slice none 0 0]) ([Value.pointer none, Value.int IntKind.i64 (0 :
  Int), Value.slice none 0 0, Value.pointer none, Value.int IntKind.i64 (0 : Int), Value.slice none 0 0, Value.pointer none, Value.int IntKind.i64 (0 : Int), Value.slice
  none 0 0, Value.pointer none, Value.int IntKind.i64 (0 : Int), Value.slice none 0 0, Value.pointer none, Value.int IntKind.i64 (0 : Int), Value.slice none 0 0,
  Value.pointer none, Value.int IntKind.i64 (0 : Int), Value.slice none 0 0, Value.pointer none, Value.int IntKind.i64 (0 : Int), Value.slice none 0 0, Value.pointer none,
  Value.int IntKind.i64 (0 : Int), Value.slice none 0 0])) /\ ((Plain plN) /\ True)) := by kernel_rfl
theorem At_2 (u : Unit) : mcall E0l noM 60 29 [.slice (some ⟨0, 0, none⟩) 8 3, .int .i64 2] ⟨mkR (nums 0 [rPN]), 1⟩ (retIs 1 (.pointer none) [rPN]) =
  ((Eq (α := List Value) ([Value.pointer none, Value.int IntKind.i64 (0 : Int), Value.slice none 0 0, Value.pointer none, Value.int IntKind.i64 (0 : Int), Value.slice none 0
  0, Value.pointer none, Value.int IntKind.i64 (0 : Int), Value.slice none 0 0, Value.pointer none, Value.int IntKind.i64 (0 : Int), Value.slice none 0 0, Value.pointer
  none, Value.int IntKind.i64 (0 : Int), Value.slice none 0 0, Value.pointer none, Value.int IntKind.i64 (0 : Int), Value.slice none 0 0, Value.pointer none, Value.int
  IntKind.i64 (0 : Int), Value.slice none 0 0, Value.pointer none, Value.int IntKind.i64 (0 : Int), Value.slice none 0 0]) ([Value.pointer none, Value.int IntKind.i64 (0 :
  Int), Value.slice none 0 0, Value.pointer none, Value.int IntKind.i64 (0 : Int), Value.slice none 0 0, Value.pointer none, Value.int IntKind.i64 (0 : Int), Value.slice
  none 0 0, Value.pointer none, Value.int IntKind.i64 (0 : Int), Value.slice none 0 0, Value.pointer none, Value.int IntKind.i64 (0 : Int), Value.slice none 0 0,
  Value.pointer none, Value.int IntKind.i64 (0 : Int), Value.slice none 0 0, Value.pointer none, Value.int IntKind.i64 (0 : Int), Value.slice none 0 0, Value.pointer none,
  Value.int IntKind.i64 (0 : Int), Value.slice none 0 0])) /\ ((Plain plN) /\ True)) := by kernel_rfl
theorem At_3 (u : Unit) : mcall E0l noM 60 29 [.slice (some ⟨0, 0, none⟩) 8 3, .int .i64 3] ⟨mkR (nums 0 [rPN]), 1⟩ (retIs 1 (.pointer none) [rPN]) =
  ((Eq (α := List Value) ([Value.pointer none, Value.int IntKind.i64 (0 : Int), Value.slice none 0 0, Value.pointer none, Value.int IntKind.i64 (0 : Int), Value.slice none 0
  0, Value.pointer none, Value.int IntKind.i64 (0 : Int), Value.slice none 0 0, Value.pointer none, Value.int IntKind.i64 (0 : Int), Value.slice none 0 0, Value.pointer
  none, Value.int IntKind.i64 (0 : Int), Value.slice none 0 0, Value.pointer none, Value.int IntKind.i64 (0 : Int), Value.slice none 0 0, Value.pointer none, Value.int
  IntKind.i64 (0 : Int), Value.slice none 0 0, Value.pointer none, Value.int IntKind.i64 (0 : Int), Value.slice none 0 0]) ([Value.pointer none, Value.int IntKind.i64 (0 :
  Int), Value.slice none 0 0, Value.pointer none, Value.int IntKind.i64 (0 : Int), Value.slice none 0 0, Value.pointer none, Value.int IntKind.i64 (0 : Int), Value.slice
  none 0 0, Value.pointer none, Value.int IntKind.i64 (0 : Int), Value.slice none 0 0, Value.pointer none, Value.int IntKind.i64 (0 : Int), Value.slice none 0 0,
  Value.pointer none, Value.int IntKind.i64 (0 : Int), Value.slice none 0 0, Value.pointer none, Value.int IntKind.i64 (0 : Int), Value.slice none 0 0, Value.pointer none,
  Value.int IntKind.i64 (0 : Int), Value.slice none 0 0])) /\ ((Plain plN) /\ True)) := by kernel_rfl
theorem At_4 (u : Unit) : mcall E0l noM 60 29 [.slice (some ⟨0, 0, none⟩) 8 3, .int .i64 4] ⟨mkR (nums 0 [rPN]), 1⟩ (retIs 1 (.pointer none) [rPN]) =
  ((Eq (α := List Value) ([Value.pointer none, Value.int IntKind.i64 (0 : Int), Value.slice none 0 0, Value.pointer none, Value.int IntKind.i64 (0 : Int), Value.slice none 0
  0, Value.pointer none, Value.int IntKind.i64 (0 : Int), Value.slice none 0 0, Value.pointer none, Value.int IntKind.i64 (0 : Int), Value.slice none 0 0, Value.pointer
  none, Value.int IntKind.i64 (0 : Int), Value.slice none 0 0, Value.pointer none, Value.int IntKind.i64 (0 : Int), Value.slice none 0 0, Value.pointer none, Value.int
  IntKind.i64 (0 : Int), Value.slice none 0 0, Value.pointer none, Value.int IntKind.i64 (0 : Int), Value.slice none 0 0]) ([Value.pointer none, Value.int IntKind.i64 (0 :
  Int), Value.slice none 0 0, Value.pointer none, Value.int IntKind.i64 (0 : Int), Value.slice none 0 0, Value.pointer none, Value.int IntKind.i64 (0 : Int), Value.slice
  none 0 0, Value.pointer none, Value.int IntKind.i64 (0 : Int), Value.slice none 0 0, Value.pointer none, Value.int IntKind.i64 (0 : Int), Value.slice none 0 0,
  Value.pointer none, Value.int IntKind.i64 (0 : Int), Value.slice none 0 0, Value.pointer none, Value.int IntKind.i64 (0 : Int), Value.slice none 0 0, Value.pointer none,
  Value.int IntKind.i64 (0 : Int), Value.slice none 0 0])) /\ ((Plain plN) /\ True)) := by kernel_rfl
theorem At_5 (u : Unit) : mcall E0l noM 60 29 [.slice (some ⟨0, 0, none⟩) 8 3, .int .i64 5] ⟨mkR (nums 0 [rPN]), 1⟩ (retIs 1 (.pointer none) [rPN]) =
  ((Eq (α := List Value) ([Value.pointer none, Value.int IntKind.i64 (0 : Int), Value.slice none 0 0, Value.pointer none, Value.int IntKind.i64 (0 : Int), Value.slice none 0
  0, Value.pointer none, Value.int IntKind.i64 (0 : Int), Value.slice none 0 0, Value.pointer none, Value.int IntKind.i64 (0 : Int), Value.slice none 0 0, Value.pointer
  none, Value.int IntKind.i64 (0 : Int), Value.slice none 0 0, Value.pointer none, Value.int IntKind.i64 (0 : Int), Value.slice none 0 0, Value.pointer none, Value.int
  IntKind.i64 (0 : Int), Value.slice none 0 0, Value.pointer none, Value.int IntKind.i64 (0 : Int), Value.slice none 0 0]) ([Value.pointer none, Value.int IntKind.i64 (0 :
  Int), Value.slice none 0 0, Value.pointer none, Value.int IntKind.i64 (0 : Int), Value.slice none 0 0, Value.pointer none, Value.int IntKind.i64 (0 : Int), Value.slice
  none 0 0, Value.pointer none, Value.int IntKind.i64 (0 : Int), Value.slice none 0 0, Value.pointer none, Value.int IntKind.i64 (0 : Int), Value.slice none 0 0,
  Value.pointer none, Value.int IntKind.i64 (0 : Int), Value.slice none 0 0, Value.pointer none, Value.int IntKind.i64 (0 : Int), Value.slice none 0 0, Value.pointer none,
  Value.int IntKind.i64 (0 : Int), Value.slice none 0 0])) /\ ((Plain plN) /\ True)) := by kernel_rfl
theorem At_6 (u : Unit) : mcall E0l noM 60 29 [.slice (some ⟨0, 0, none⟩) 8 3, .int .i64 6] ⟨mkR (nums 0 [rPN]), 1⟩ (retIs 1 (.pointer none) [rPN]) =
  ((Eq (α := List Value) ([Value.pointer none, Value.int IntKind.i64 (0 : Int), Value.slice none 0 0, Value.pointer none, Value.int IntKind.i64 (0 : Int), Value.slice none 0
  0, Value.pointer none, Value.int IntKind.i64 (0 : Int), Value.slice none 0 0, Value.pointer none, Value.int IntKind.i64 (0 : Int), Value.slice none 0 0, Value.pointer
  none, Value.int IntKind.i64 (0 : Int), Value.slice none 0 0, Value.pointer none, Value.int IntKind.i64 (0 : Int), Value.slice none 0 0, Value.pointer none, Value.int
  IntKind.i64 (0 : Int), Value.slice none 0 0, Value.pointer none, Value.int IntKind.i64 (0 : Int), Value.slice none 0 0]) ([Value.pointer none, Value.int IntKind.i64 (0 :
  Int), Value.slice none 0 0, Value.pointer none, Value.int IntKind.i64 (0 : Int), Value.slice none 0 0, Value.pointer none, Value.int IntKind.i64 (0 : Int), Value.slice
  none 0 0, Value.pointer none, Value.int IntKind.i64 (0 : Int), Value.slice none 0 0, Value.pointer none, Value.int IntKind.i64 (0 : Int), Value.slice none 0 0,
  Value.pointer none, Value.int IntKind.i64 (0 : Int), Value.slice none 0 0, Value.pointer none, Value.int IntKind.i64 (0 : Int), Value.slice none 0 0, Value.pointer none,
  Value.int IntKind.i64 (0 : Int), Value.slice none 0 0])) /\ ((Plain plN) /\ True)) := by kernel_rfl
theorem At_7 (u : Unit) : mcall E0l noM 60 29 [.slice (some ⟨0, 0, none⟩) 8 3, .int .i64 7] ⟨mkR (nums 0 [rPN]), 1⟩ (retIs 1 (.pointer none) [rPN]) =
  ((Eq (α := List Value) ([Value.pointer none, Value.int IntKind.i64 (0 : Int), Value.slice none 0 0, Value.pointer none, Value.int IntKind.i64 (0 : Int), Value.slice none 0
  0, Value.pointer none, Value.int IntKind.i64 (0 : Int), Value.slice none 0 0, Value.pointer none, Value.int IntKind.i64 (0 : Int), Value.slice none 0 0, Value.pointer
  none, Value.int IntKind.i64 (0 : Int), Value.slice none 0 0, Value.pointer none, Value.int IntKind.i64 (0 : Int), Value.slice none 0 0, Value.pointer none, Value.int
  IntKind.i64 (0 : Int), Value.slice none 0 0, Value.pointer none, Value.int IntKind.i64 (0 : Int), Value.slice none 0 0]) ([Value.pointer none, Value.int IntKind.i64 (0 :
  Int), Value.slice none 0 0, Value.pointer none, Value.int IntKind.i64 (0 : Int), Value.slice none 0 0, Value.pointer none, Value.int IntKind.i64 (0 : Int), Value.slice
  none 0 0, Value.pointer none, Value.int IntKind.i64 (0 : Int), Value.slice none 0 0, Value.pointer none, Value.int IntKind.i64 (0 : Int), Value.slice none 0 0,
  Value.pointer none, Value.int IntKind.i64 (0 : Int), Value.slice none 0 0, Value.pointer none, Value.int IntKind.i64 (0 : Int), Value.slice none 0 0, Value.pointer none,
  Value.int IntKind.i64 (0 : Int), Value.slice none 0 0])) /\ ((Plain plN) /\ True)) := by kernel_rfl
theorem plN_p : Plain plN := by
  intro v hv
  simp only [plN, List.mem_cons, List.not_mem_nil, or_false] at hv
  rcases hv with rfl | rfl | rfl | rfl | rfl | rfl | rfl | rfl | rfl | rfl | rfl | rfl | rfl | rfl | rfl | rfl | rfl | rfl | rfl | rfl | rfl | rfl | rfl | rfl <;> rfl
theorem At_con (n : Int) : Con Tryz.prog 29 [.slice (some ⟨0, 0, none⟩) 8 3, .int .i64 n] [rPN] (.pointer none) [rPN] := by
  rcases (by omega : (n < 0 ∨ 8 ≤ n) ∨ n = 0 ∨ n = 1 ∨ n = 2 ∨ n = 3 ∨ n = 4 ∨ n = 5 ∨ n = 6 ∨ n = 7) with h | rfl | rfl | rfl | rfl | rfl | rfl | rfl | rfl
  · refine con_vc (E := E0) mixed (calls_envN _) (lok_envN _) (M := noM) lm_none (At_vc n) ?_
    simp only [ofNat_eq, toNat_cast, Nat.zero_add, Nat.add_zero, Nat.mul_one, List.drop_zero, bCells_len, bCells_drop, bCells_take, bCells_app, bCells_one, bCells_plain, List.length_replicate, List.length_append, List.length_take, List.length_drop, List.take_length, and_true, true_and, and_self, decide_true, List.length_nil, List.length_cons, Nat.sub_zero, dB_mk, dB_ro, List.take_zero]
    exact br_if (fun _ => plN_p) fun h1 => br_if (fun _ => plN_p) fun h2 => absurd h (by omega)
  · refine con_vc (E := E0l) mixed (calls_envTl no_ok all_nil) (lok_envTl _ _ _) (M := noM) lm_none (At_0 ()) ⟨rfl, plN_p, trivial⟩
  · refine con_vc (E := E0l) mixed (calls_envTl no_ok all_nil) (lok_envTl _ _ _) (M := noM) lm_none (At_1 ()) ⟨rfl, plN_p, trivial⟩
  · refine con_vc (E := E0l) mixed (calls_envTl no_ok all_nil) (lok_envTl _ _ _) (M := noM) lm_none (At_2 ()) ⟨rfl, plN_p, trivial⟩
  · refine con_vc (E := E0l) mixed (calls_envTl no_ok all_nil) (lok_envTl _ _ _) (M := noM) lm_none (At_3 ()) ⟨rfl, plN_p, trivial⟩
  · refine con_vc (E := E0l) mixed (calls_envTl no_ok all_nil) (lok_envTl _ _ _) (M := noM) lm_none (At_4 ()) ⟨rfl, plN_p, trivial⟩
  · refine con_vc (E := E0l) mixed (calls_envTl no_ok all_nil) (lok_envTl _ _ _) (M := noM) lm_none (At_5 ()) ⟨rfl, plN_p, trivial⟩
  · refine con_vc (E := E0l) mixed (calls_envTl no_ok all_nil) (lok_envTl _ _ _) (M := noM) lm_none (At_6 ()) ⟨rfl, plN_p, trivial⟩
  · refine con_vc (E := E0l) mixed (calls_envTl no_ok all_nil) (lok_envTl _ _ _) (M := noM) lm_none (At_7 ()) ⟨rfl, plN_p, trivial⟩
theorem eAt_ok : EntOk Tryz.prog eAt := entC_ok (by
  intro a rows p v news h hp
  split at h <;> simp only [Option.some.injEq, Prod.mk.injEq, reduceCtorEq] at h
  obtain ⟨rfl, rfl, rfl⟩ := h
  subst hp
  exact At_con _)
end Go.Proofs.YtnglilhmfhmhjaaGreatDoor.sn
