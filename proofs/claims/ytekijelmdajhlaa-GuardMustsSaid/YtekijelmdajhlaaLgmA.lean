/- GuardMusts: the loop that gathers functions; its rounds with the place as a literal. -/
import Derived.Test.YtekijelmdajhlaaSz9
import Derived.Test.YtekijelmdajhlaaRows
import Derived.Test.YtekijelmdajhlaaLwit
import Derived.Test.YtekijelmdajhlaaLbools
set_option linter.unusedSimpArgs false
set_option linter.unusedVariables false
namespace Go.Proofs.Ytekijelmdajhlaa.gd
open Go Go.Ev Go.Sy Go.RowKit Go.Proofs.Ytekijelmdajhlaa.gl Go.Proofs.Ytekijelmdajhlaa.tk
noncomputable def eRunsM : EntM := entC 3 fun a r => match a, r with
  | [], [] => some (True, .bool true, [])
  | _, _ => none
noncomputable def tGm : List EntM := [eRunsM]
noncomputable abbrev EtGm : Env := envT Try.prog tGm
def roundJ {η : Type} (n0 n' nt : Nat) (Q : η → Prop) (sl rl' : η → List (Nat × Value)) (rl : η → List (Nat × Row)) (e : Nat) (Qx : Prop) (sx : List (Nat × Value)) (rx : List (Nat × Row)) : KO := fun x => match x with
  | (.normal, fr', u', h') => ∃ y, Q y ∧ atSt n0 n' nt (sl y) (rl y) fr' u' h' True
  | (.exit j, fr', u', h') => bif Nat.beq j e then Qx ∧ atSt n0 n' nt sx rx fr' u' h' True else False
  | _ => False
def pGm : List Nat := [0, 1, 0, 1, 1, 1]
structure GM where
  l : List Bool
  c : Int
  a : Int
def fnC (k : Nat) : Value := .func (.func 38) ⟨[]⟩ ⟨[.pointer (some ⟨1, 0, none⟩), .pointer (some ⟨6 + k, 0, none⟩), .pointer (some ⟨2, 0, none⟩), .pointer (some ⟨3, 0, none⟩)]⟩
def fsS : Nat → Value
  | 0 => .slice none 0 0
  | n + 1 => .slice (some ⟨5, 0, none⟩) (n + 1) 1
def ixR : Nat → List (Nat × Row)
  | 0 => []
  | n + 1 => ixR n ++ [(6 + n, ⟨[.int .i64 (n : Nat)], false, .cells false⟩)]
def fnsC : Nat → List Value
  | 0 => []
  | n + 1 => fnsC n ++ [fnC n]
def fsR : Nat → List (Nat × Row)
  | 0 => []
  | n + 1 => [(5, ⟨fnsC (n + 1), false, .cells false⟩)] ++ ixR (n + 1)
def bkM (g : GM) : List (Nat × Row) := [(0, gRo enB g.l), (2, ⟨[.int .i64 g.c], false, .cells false⟩), (3, ⟨[.int .i64 g.a], false, .cells false⟩)]
def bxM (g : GM) : List (Nat × Row) := [(1, ⟨[.slice (some ⟨0, 0, none⟩) g.l.length 1], false, .cells false⟩)]
def slM (i : Nat) (f : Int) : List (Nat × Value) := [(3, .pointer (some ⟨1, 0, none⟩)), (4, .pointer (some ⟨2, 0, none⟩)), (5, .pointer (some ⟨3, 0, none⟩)), (7, fsS i), (8, .int .i64 f), (9, .pointer (some ⟨4, 0, none⟩))]
def rlM (g : GM) (i : Nat) : List (Nat × Row) := bkM g ++ bxM g ++ [(4, ⟨[.int .i64 (i : Nat)], false, .cells false⟩)] ++ fsR i
def slX (i : Nat) (f : Int) : List (Nat × Value) := [(4, .pointer (some ⟨2, 0, none⟩)), (5, .pointer (some ⟨3, 0, none⟩)), (7, fsS i), (8, .int .i64 f)]
def rlX (g : GM) : Nat → List (Nat × Row)
  | 0 => bkM g
  | n + 1 => bkM g ++ fsR (n + 1) ++ bxM g
noncomputable def mlM (g : GM) (i : Nat) (f : Int) (Q : Int → Prop) (Qx : Prop) : Prop := mev EtGm noM 60 8 (0 :: pGm) false (codeOf Try.prog 8 (0 :: pGm)) ⟨mkOv (slM i f), 79, []⟩ none ⟨mkR (rlM g i), 40⟩ (roundJ 1 40 79 Q (slM (i + 1)) (fun _ => []) (fun _ => rlM g (i + 1)) 0 Qx (slX i f) (rlX g i))
def nz : Nat → Prop → Prop
  | 0, p => p
  | n + 1, p => ((0 : Nat) = 0) ∧ nz n p
def iz (k : Nat) : Nat → Prop → Prop
  | 0, p => p
  | n + 1, p => (((k : Nat) : Int) = ((k : Nat) : Int)) ∧ iz (k + 1) n p
def nxM (g : GM) (i : Nat) (Q : Int → Prop) (v : Int) : Prop := ∃ y : Int, (Q y ∧ nz 4 (((i + 1 : Nat) = i + 1) ∧ ((y = v) ∧ nz 1 ((gC enB g.1 = gC enB g.1) ∧ (Plain (gC enB g.1) ∧ ((g.2 = g.2) ∧ ((g.3 = g.3) ∧ nz 1 ((List.length g.1 = List.length g.1) ∧ ((((i + 1 : Nat) : Int) = ((i + 1 : Nat) : Int)) ∧ nz (4 * (i + 1)) (iz 0 (i + 1) True))))))))))
def exM (g : GM) (f : Int) (Qx : Prop) : Nat → Prop
  | 0 => Qx ∧ nz 2 ((f = f) ∧ ((gC enB g.1 = gC enB g.1) ∧ (Plain (gC enB g.1) ∧ ((g.2 = g.2) ∧ ((g.3 = g.3) ∧ True)))))
  | i + 1 => Qx ∧ nz 3 (((i + 1 : Nat) = i + 1) ∧ ((f = f) ∧ ((gC enB g.1 = gC enB g.1) ∧ (Plain (gC enB g.1) ∧ ((g.2 = g.2) ∧ ((g.3 = g.3) ∧ nz (4 * (i + 1)) (iz 0 (i + 1) (nz 1 ((List.length g.1 = List.length g.1) ∧ True)))))))))
noncomputable def cdM (g : GM) (i : Nat) (f : Int) (Q : Int → Prop) (Qx : Prop) : Prop :=
  br (decide (((i : Nat) : Int) < Int.ofNat (List.length g.1))) (bif Nat.blt i 20 then
    br (decide ((0 : Int) ≤ ((i : Nat) : Int) ∧ ((i : Nat) : Int) < ((List.length g.1 : Nat) : Int))) (((gC enB g.1)[i]? = some (Value.bool (cellB (gC enB g.1) i))) ∧ br (!cellB (gC enB g.1) i) (br (decide (f < 0)) (nxM g i Q ((i : Nat) : Int)) (nxM g i Q f)) (nxM g i Q f)) False else exM g f Qx i) (exM g f Qx i)
def fsF (l : List Bool) : Nat → Int
  | 0 => -1
  | n + 1 => if fsF l n < 0 ∧ l.getD n true = false then (n : Int) else fsF l n
def QxM (g : GM) (N : Nat) (f : Int) : Prop := N ≤ 20 ∧ N ≤ g.l.length ∧ (N < 20 → N = g.l.length) ∧ f = fsF g.l N
def kL (g : GM) (K : KO) : List Nat → Prop
  | [] => True
  | [N] => ∀ f, QxM g N f → K (.exit 0, ⟨mkOv (slX N f), 79, []⟩, none, ⟨mkR (rlX g N), 40⟩)
  | N :: l => ∀ side : Bool, br side (∀ f, QxM g N f → K (.exit 0, ⟨mkOv (slX N f), 79, []⟩, none, ⟨mkR (rlX g N), 40⟩)) (kL g K l)
def specGm (Ns : List Nat) : Sy.Spec := fun fr u h K => ∃ g : GM, atSt 1 40 79 (slM 0 (-1)) (rlM g 0) fr u h (kL g K Ns)
def mGm (Ns : List Nat) := mOf [(8, pGm, specGm Ns)]
theorem eRunsM_ok : EntOk Try.prog eRunsM := entC_ok (by
  intro a rows p v news h hp
  split at h <;> simp only [Option.some.injEq, Prod.mk.injEq, reduceCtorEq] at h
  obtain ⟨rfl, rfl, rfl⟩ := h
  exact con_run mixed (n := 1000000) (by kernel_rfl) (by kernel_rfl))
theorem tGm_ok : ∀ x ∈ tGm, EntOk Try.prog x := all_cons eRunsM_ok (all_nil)
theorem r0_vc (g : GM) (f : Int) (Q : Int → Prop) (Qx : Prop) : mlM g 0 f Q Qx = cdM g 0 f Q Qx := by kernel_rfl
theorem r1_vc (g : GM) (f : Int) (Q : Int → Prop) (Qx : Prop) : mlM g 1 f Q Qx = cdM g 1 f Q Qx := by kernel_rfl
theorem r2_vc (g : GM) (f : Int) (Q : Int → Prop) (Qx : Prop) : mlM g 2 f Q Qx = cdM g 2 f Q Qx := by kernel_rfl
theorem r3_vc (g : GM) (f : Int) (Q : Int → Prop) (Qx : Prop) : mlM g 3 f Q Qx = cdM g 3 f Q Qx := by kernel_rfl
theorem r4_vc (g : GM) (f : Int) (Q : Int → Prop) (Qx : Prop) : mlM g 4 f Q Qx = cdM g 4 f Q Qx := by kernel_rfl
theorem r5_vc (g : GM) (f : Int) (Q : Int → Prop) (Qx : Prop) : mlM g 5 f Q Qx = cdM g 5 f Q Qx := by kernel_rfl
theorem r6_vc (g : GM) (f : Int) (Q : Int → Prop) (Qx : Prop) : mlM g 6 f Q Qx = cdM g 6 f Q Qx := by kernel_rfl
theorem r7_vc (g : GM) (f : Int) (Q : Int → Prop) (Qx : Prop) : mlM g 7 f Q Qx = cdM g 7 f Q Qx := by kernel_rfl
theorem r8_vc (g : GM) (f : Int) (Q : Int → Prop) (Qx : Prop) : mlM g 8 f Q Qx = cdM g 8 f Q Qx := by kernel_rfl
theorem r9_vc (g : GM) (f : Int) (Q : Int → Prop) (Qx : Prop) : mlM g 9 f Q Qx = cdM g 9 f Q Qx := by kernel_rfl
theorem r10_vc (g : GM) (f : Int) (Q : Int → Prop) (Qx : Prop) : mlM g 10 f Q Qx = cdM g 10 f Q Qx := by kernel_rfl
theorem r11_vc (g : GM) (f : Int) (Q : Int → Prop) (Qx : Prop) : mlM g 11 f Q Qx = cdM g 11 f Q Qx := by kernel_rfl
theorem r12_vc (g : GM) (f : Int) (Q : Int → Prop) (Qx : Prop) : mlM g 12 f Q Qx = cdM g 12 f Q Qx := by kernel_rfl
theorem r13_vc (g : GM) (f : Int) (Q : Int → Prop) (Qx : Prop) : mlM g 13 f Q Qx = cdM g 13 f Q Qx := by kernel_rfl
theorem r14_vc (g : GM) (f : Int) (Q : Int → Prop) (Qx : Prop) : mlM g 14 f Q Qx = cdM g 14 f Q Qx := by kernel_rfl
theorem r15_vc (g : GM) (f : Int) (Q : Int → Prop) (Qx : Prop) : mlM g 15 f Q Qx = cdM g 15 f Q Qx := by kernel_rfl
theorem r16_vc (g : GM) (f : Int) (Q : Int → Prop) (Qx : Prop) : mlM g 16 f Q Qx = cdM g 16 f Q Qx := by kernel_rfl
theorem r17_vc (g : GM) (f : Int) (Q : Int → Prop) (Qx : Prop) : mlM g 17 f Q Qx = cdM g 17 f Q Qx := by kernel_rfl
theorem r18_vc (g : GM) (f : Int) (Q : Int → Prop) (Qx : Prop) : mlM g 18 f Q Qx = cdM g 18 f Q Qx := by kernel_rfl
theorem r19_vc (g : GM) (f : Int) (Q : Int → Prop) (Qx : Prop) : mlM g 19 f Q Qx = cdM g 19 f Q Qx := by kernel_rfl
theorem r20_vc (g : GM) (f : Int) (Q : Int → Prop) (Qx : Prop) : mlM g 20 f Q Qx = cdM g 20 f Q Qx := by kernel_rfl
end Go.Proofs.Ytekijelmdajhlaa.gd
