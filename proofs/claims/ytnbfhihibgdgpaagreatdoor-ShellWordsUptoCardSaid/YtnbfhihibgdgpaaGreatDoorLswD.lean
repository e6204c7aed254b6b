/- A text split at a byte: contract. -/
import Derived.Test.YtnbfhihibgdgpaaGreatDoorSz9
import Derived.Test.YtnbfhihibgdgpaaGreatDoorRows
import Derived.Test.YtnbfhihibgdgpaaGreatDoorLswC
set_option maxRecDepth 20000
set_option linter.unusedSimpArgs false
set_option linter.unusedVariables false
namespace Go.Proofs.YtnbfhihibgdgpaaGreatDoor.sw
open Go Go.Ev Go.Sy Go.RowKit Go.Proofs.YtnbfhihibgdgpaaGreatDoor.gl Go.Proofs.YtnbfhihibgdgpaaGreatDoor.tk Go.Proofs.YtnbfhihibgdgpaaGreatDoor.sl Go.Proofs.YtnbfhihibgdgpaaGreatDoor.cr
noncomputable def ixY : ByteArray → Int → Int := sealV fun s c => Lib.indexByte s.data.toList c.toNat.toUInt8
noncomputable def cnY : ByteArray → UInt8 → Int := sealV fun s c => ((s.data.toList.count c : Nat) : Int)
noncomputable def oIy (args : List Value) : Option Value := match args with
  | [.string a, .int .u8 c] => some (.int .i64 (ixY a c))
  | _ => none
noncomputable def oCy (args : List Value) : Option Value := match args with
  | [.string a, .string ⟨⟨[c]⟩⟩] => some (.int .i64 (cnY a c))
  | _ => none
noncomputable def eIy : EntM := eFl 99 oIy
noncomputable def eCy : EntM := eFl 51 oCy
noncomputable def tIy : List EntM := [eIy]
noncomputable abbrev EtIy : Env := envT Tryz.prog tIy
noncomputable def eId : EntM := entC 52 fun a r => match a, r with
  | [.string s, .string ⟨⟨[c]⟩⟩], [] => some (True, .int .i64 (ixY s c.toNat), [])
  | _, _ => none
noncomputable def tSp : List EntM := [eCy, eId]
noncomputable abbrev EtSp : Env := envT Tryz.prog tSp
def jn (c : UInt8) : List (List UInt8) → List UInt8
  | [] => []
  | [x] => x
  | x :: y :: r => x ++ c :: jn c (y :: r)
def jnL (l : List (List UInt8)) : List UInt8 := l.getD (l.length - 1) []
structure SP where
  c : UInt8
  l : List (List UInt8)
def stL (l : List (List UInt8)) (i : Nat) : List (List UInt8) := l.take i ++ List.replicate (l.length - i) []
def pSp : List Nat := [0, 0, 1, 1, 1, 1, 1, 1, 1, 1]
def slSp (g : SP) (i : Nat) : List (Nat × Value) := [(0, .string (bs (jn g.c (g.l.drop i)))), (1, .string ⟨#[g.c]⟩), (2, .int .i64 0), (3, .int .i64 ((g.l.length - 1 : Nat) : Nat)), (9, .slice (some ⟨0, 0, none⟩) g.l.length 1), (10, .int .i64 (i : Nat))]
noncomputable def rlSp (g : SP) (i : Nat) : List (Nat × Row) := [(0, gOwn enS (stL g.l i))]
noncomputable def wsSp (g : SP) : List (Gate Unit) := [⟨.exit 0, fun _ => True, fun _ => [(0, .string (bs (jn g.c (g.l.drop (g.l.length - 1))))), (9, .slice (some ⟨0, 0, none⟩) g.l.length 1), (10, .int .i64 ((g.l.length - 1 : Nat) : Nat))], fun _ => rlSp g (g.l.length - 1), 1⟩]
def okSp (g : SP) : Prop := 0 < g.l.length ∧ g.l.length ≤ 100000 ∧ (jn g.c g.l).length ≤ 1000000 ∧ ∀ x ∈ g.l, g.c ∉ x
noncomputable def specSp : Sy.Spec := specOf 0 1 66 okSp (fun g => slSp g 0) (fun g => rlSp g 0) wsSp
noncomputable def mSp := mOf [(34, pSp, specSp)]
theorem Id_vc (s : ByteArray) (c : UInt8) (v : Int) : mcall EtIy noM 60 52 [.string s, .string ⟨#[c]⟩] ⟨mkR (nums 0 []), 0⟩ (retIs 0 (.int .i64 v) []) =
  (br (strEq (ByteArray.mk (Array.mk [c])) s) ((v = (0 : Int)) /\ True) ((((True /\ (True /\ True)) /\ (True /\ (True /\ True)))) /\ ((v = ixY s (byteAt (ByteArray.mk
  (Array.mk [c])) 0)) /\ True))) := by kernel_rfl
theorem Sp_round (g : SP) (i : Nat) (Inv : Nat → Prop) (m : Nat → Nat) : mev EtSp noM 60 34 (0 :: pSp) false (codeOf Tryz.prog 34 (0 :: pSp)) ⟨mkOv (slSp g i), 66, []⟩ none ⟨mkR (rlSp g i), 1⟩ (roundK 0 1 66 Inv m (slSp g) (rlSp g) (wsSp g) i) =
  (br (decide ((↑i : Int) < (↑(List.length g.2 - 1) : Int))) ((((True /\ (True /\ True)) /\ (True /\ (True /\ True)))) /\ (br (decide (ixY (bs (jn g.1 (List.drop i g.2)))
  (↑(UInt8.toNat g.1) : Int) < (0 : Int))) (∃ y : Unit, ((True) /\ ((bs (jn g.1 (List.drop (List.length g.2 - 1) g.2)) = bs (jn g.1 (List.drop i g.2))) /\ ((0 = 0) /\
  ((List.length g.2 = List.length g.2) /\ (((↑(List.length g.2 - 1) : Int) = (↑i : Int)) /\ ((Eq (α := List Value) (gC enS (stL g.2 (List.length g.2 - 1))) (gC enS (stL g.2
  i))) /\ ((Plain (gC enS (stL g.2 (List.length g.2 - 1)))) /\ True)))))))) (br (decide ((0 : Int) <= (↑0 : Int) /\ (0 : Int) <= IntKind.wrap IntKind.i64 (ixY (bs (jn g.1
  (List.drop i g.2))) (↑(UInt8.toNat g.1) : Int) + (0 : Int)) /\ IntKind.wrap IntKind.i64 (ixY (bs (jn g.1 (List.drop i g.2))) (↑(UInt8.toNat g.1) : Int) + (0 : Int)) <=
  (↑(List.length (Array.toList (ByteArray.data (bs (jn g.1 (List.drop i g.2)))))) : Int))) (br (decide ((0 : Int) <= (↑i : Int) /\ (↑i : Int) < (↑(List.length g.2) : Int)))
  (br (decide (0 + Int.toNat (↑i : Int) * 1 + 1 <= List.length (gC enS (stL g.2 i)))) (br (decide ((0 : Int) <= IntKind.wrap IntKind.i64 (ixY (bs (jn g.1 (List.drop i g.2)))
  (↑(UInt8.toNat g.1) : Int) + Int.ofNat 1) /\ IntKind.wrap IntKind.i64 (ixY (bs (jn g.1 (List.drop i g.2))) (↑(UInt8.toNat g.1) : Int) + Int.ofNat 1) <= (↑(List.length
  (Array.toList (ByteArray.data (bs (jn g.1 (List.drop i g.2)))))) : Int) /\ (↑(List.length (Array.toList (ByteArray.data (bs (jn g.1 (List.drop i g.2)))))) : Int) <=
  (↑(List.length (Array.toList (ByteArray.data (bs (jn g.1 (List.drop i g.2)))))) : Int))) (∃ j : Nat, ((Inv j) /\ ((m j < m i) /\ ((bs (jn g.1 (List.drop j g.2)) = sub (bs
  (jn g.1 (List.drop i g.2))) (Int.toNat (IntKind.wrap IntKind.i64 (ixY (bs (jn g.1 (List.drop i g.2))) (↑(UInt8.toNat g.1) : Int) + Int.ofNat 1))) (Int.toNat (↑(List.length
  (Array.toList (ByteArray.data (bs (jn g.1 (List.drop i g.2)))))) : Int))) /\ ((ByteArray.mk (Array.mk [g.1]) = ByteArray.mk (Array.mk [g.1])) /\ (((0 : Int) = (0 : Int))
  /\ (((↑(List.length g.2 - 1) : Int) = (↑(List.length g.2 - 1) : Int)) /\ ((0 = 0) /\ ((List.length g.2 = List.length g.2) /\ (((↑j : Int) = IntKind.wrap IntKind.i64 ((↑i :
  Int) + (1 : Int))) /\ ((Eq (α := List Value) (gC enS (stL g.2 j)) (ovr (gC enS (stL g.2 i)) (0 + Int.toNat (↑i : Int) * 1) [Value.string (sub (bs (jn g.1 (List.drop i
  g.2))) 0 (Int.toNat (IntKind.wrap IntKind.i64 (ixY (bs (jn g.1 (List.drop i g.2))) (↑(UInt8.toNat g.1) : Int) + (0 : Int)))))])) /\ ((Plain (gC enS (stL g.2 j))) /\
  True)))))))))))) False) False) False) False))) (∃ y : Unit, ((True) /\ ((bs (jn g.1 (List.drop (List.length g.2 - 1) g.2)) = bs (jn g.1 (List.drop i g.2))) /\ ((0 = 0) /\
  ((List.length g.2 = List.length g.2) /\ (((↑(List.length g.2 - 1) : Int) = (↑i : Int)) /\ ((Eq (α := List Value) (gC enS (stL g.2 (List.length g.2 - 1))) (gC enS (stL g.2
  i))) /\ ((Plain (gC enS (stL g.2 (List.length g.2 - 1)))) /\ True))))))))) := by kernel_rfl
theorem Sa_vc (l : List (List UInt8)) : mcall EtSp mSp 60 34 [.string (bs (jn 32 l)), .string ⟨#[32]⟩, .int .i64 0, .int .i64 (-1)] ⟨mkR (nums 0 []), 0⟩ (retIs 0 (.slice (some ⟨0, 0, none⟩) l.length 1) [gOwn enS l]) =
  ((((True /\ (True /\ True)) /\ (True /\ (True /\ True)))) /\ (br (decide (((0 : Int) <= if IntKind.wrap IntKind.i64 (Int.ofNat (List.length (Array.toList (ByteArray.data
  (bs (jn 32 l))))) + (1 : Int)) < IntKind.wrap IntKind.i64 (cnY (bs (jn 32 l)) 32 + (1 : Int)) then IntKind.wrap IntKind.i64 (Int.ofNat (List.length (Array.toList
  (ByteArray.data (bs (jn 32 l))))) + (1 : Int)) else IntKind.wrap IntKind.i64 (cnY (bs (jn 32 l)) 32 + (1 : Int))) /\ ((if IntKind.wrap IntKind.i64 (Int.ofNat (List.length
  (Array.toList (ByteArray.data (bs (jn 32 l))))) + (1 : Int)) < IntKind.wrap IntKind.i64 (cnY (bs (jn 32 l)) 32 + (1 : Int)) then IntKind.wrap IntKind.i64 (Int.ofNat
  (List.length (Array.toList (ByteArray.data (bs (jn 32 l))))) + (1 : Int)) else IntKind.wrap IntKind.i64 (cnY (bs (jn 32 l)) 32 + (1 : Int))) <= if IntKind.wrap IntKind.i64
  (Int.ofNat (List.length (Array.toList (ByteArray.data (bs (jn 32 l))))) + (1 : Int)) < IntKind.wrap IntKind.i64 (cnY (bs (jn 32 l)) 32 + (1 : Int)) then IntKind.wrap
  IntKind.i64 (Int.ofNat (List.length (Array.toList (ByteArray.data (bs (jn 32 l))))) + (1 : Int)) else IntKind.wrap IntKind.i64 (cnY (bs (jn 32 l)) 32 + (1 : Int))) /\ (if
  IntKind.wrap IntKind.i64 (Int.ofNat (List.length (Array.toList (ByteArray.data (bs (jn 32 l))))) + (1 : Int)) < IntKind.wrap IntKind.i64 (cnY (bs (jn 32 l)) 32 + (1 :
  Int)) then IntKind.wrap IntKind.i64 (Int.ofNat (List.length (Array.toList (ByteArray.data (bs (jn 32 l))))) + (1 : Int)) else IntKind.wrap IntKind.i64 (cnY (bs (jn 32 l))
  32 + (1 : Int))) <= (16777216 : Int))) (∃ g : SP, ((okSp g) /\ ((bs (jn g.1 (List.drop 0 g.2)) = bs (jn 32 l)) /\ ((ByteArray.mk (Array.mk [g.1]) = ByteArray.mk #[32]) /\
  (((0 : Int) = (0 : Int)) /\ (((↑(List.length g.2 - 1) : Int) = IntKind.wrap IntKind.i64 ((if IntKind.wrap IntKind.i64 (Int.ofNat (List.length (Array.toList (ByteArray.data
  (bs (jn 32 l))))) + (1 : Int)) < IntKind.wrap IntKind.i64 (cnY (bs (jn 32 l)) 32 + (1 : Int)) then IntKind.wrap IntKind.i64 (Int.ofNat (List.length (Array.toList
  (ByteArray.data (bs (jn 32 l))))) + (1 : Int)) else IntKind.wrap IntKind.i64 (cnY (bs (jn 32 l)) 32 + (1 : Int))) - (1 : Int))) /\ ((0 = 0) /\ ((List.length g.2 =
  Int.toNat (if IntKind.wrap IntKind.i64 (Int.ofNat (List.length (Array.toList (ByteArray.data (bs (jn 32 l))))) + (1 : Int)) < IntKind.wrap IntKind.i64 (cnY (bs (jn 32 l))
  32 + (1 : Int)) then IntKind.wrap IntKind.i64 (Int.ofNat (List.length (Array.toList (ByteArray.data (bs (jn 32 l))))) + (1 : Int)) else IntKind.wrap IntKind.i64 (cnY (bs
  (jn 32 l)) 32 + (1 : Int)))) /\ (((0 : Int) = (0 : Int)) /\ ((Eq (α := List Value) (gC enS (stL g.2 0)) (List.replicate (Int.toNat (if IntKind.wrap IntKind.i64 (Int.ofNat
  (List.length (Array.toList (ByteArray.data (bs (jn 32 l))))) + (1 : Int)) < IntKind.wrap IntKind.i64 (cnY (bs (jn 32 l)) 32 + (1 : Int)) then IntKind.wrap IntKind.i64
  (Int.ofNat (List.length (Array.toList (ByteArray.data (bs (jn 32 l))))) + (1 : Int)) else IntKind.wrap IntKind.i64 (cnY (bs (jn 32 l)) 32 + (1 : Int)))) (Value.string
  (ByteArray.mk #[])))) /\ ((Plain (gC enS (stL g.2 0))) /\ (∀ (y : Unit), ((True) → (br (decide ((0 : Int) <= (↑(List.length g.2 - 1) : Int) /\ (↑(List.length g.2 - 1) :
  Int) < (↑(List.length g.2) : Int))) (br (decide (0 + Int.toNat (↑(List.length g.2 - 1) : Int) * 1 + 1 <= List.length (gC enS (stL g.2 (List.length g.2 - 1))))) (br (decide
  ((0 : Int) <= (↑0 : Int) /\ (0 : Int) <= IntKind.wrap IntKind.i64 ((↑(List.length g.2 - 1) : Int) + (1 : Int)) /\ IntKind.wrap IntKind.i64 ((↑(List.length g.2 - 1) : Int)
  + (1 : Int)) <= (↑(List.length g.2) : Int))) ((0 = 0) /\ ((List.length l = Int.toNat (IntKind.wrap IntKind.i64 ((↑(List.length g.2 - 1) : Int) + (1 : Int))) - 0) /\ ((Eq
  (α := List Value) (gC enS l) (ovr (gC enS (stL g.2 (List.length g.2 - 1))) (0 + Int.toNat (↑(List.length g.2 - 1) : Int) * 1) [Value.string (bs (jn g.1 (List.drop
  (List.length g.2 - 1) g.2)))])) /\ ((Plain (gC enS l)) /\ True)))) False) False) False)))))))))))))) False)) := by kernel_rfl
theorem Sb_vc (l : List (List UInt8)) : mcall EtSp mSp 60 34 [.string (bs (jn 61 l)), .string ⟨#[61]⟩, .int .i64 0, .int .i64 (-1)] ⟨mkR (nums 0 []), 0⟩ (retIs 0 (.slice (some ⟨0, 0, none⟩) l.length 1) [gOwn enS l]) =
  ((((True /\ (True /\ True)) /\ (True /\ (True /\ True)))) /\ (br (decide (((0 : Int) <= if IntKind.wrap IntKind.i64 (Int.ofNat (List.length (Array.toList (ByteArray.data
  (bs (jn 61 l))))) + (1 : Int)) < IntKind.wrap IntKind.i64 (cnY (bs (jn 61 l)) 61 + (1 : Int)) then IntKind.wrap IntKind.i64 (Int.ofNat (List.length (Array.toList
  (ByteArray.data (bs (jn 61 l))))) + (1 : Int)) else IntKind.wrap IntKind.i64 (cnY (bs (jn 61 l)) 61 + (1 : Int))) /\ ((if IntKind.wrap IntKind.i64 (Int.ofNat (List.length
  (Array.toList (ByteArray.data (bs (jn 61 l))))) + (1 : Int)) < IntKind.wrap IntKind.i64 (cnY (bs (jn 61 l)) 61 + (1 : Int)) then IntKind.wrap IntKind.i64 (Int.ofNat
  (List.length (Array.toList (ByteArray.data (bs (jn 61 l))))) + (1 : Int)) else IntKind.wrap IntKind.i64 (cnY (bs (jn 61 l)) 61 + (1 : Int))) <= if IntKind.wrap IntKind.i64
  (Int.ofNat (List.length (Array.toList (ByteArray.data (bs (jn 61 l))))) + (1 : Int)) < IntKind.wrap IntKind.i64 (cnY (bs (jn 61 l)) 61 + (1 : Int)) then IntKind.wrap
  IntKind.i64 (Int.ofNat (List.length (Array.toList (ByteArray.data (bs (jn 61 l))))) + (1 : Int)) else IntKind.wrap IntKind.i64 (cnY (bs (jn 61 l)) 61 + (1 : Int))) /\ (if
  IntKind.wrap IntKind.i64 (Int.ofNat (List.length (Array.toList (ByteArray.data (bs (jn 61 l))))) + (1 : Int)) < IntKind.wrap IntKind.i64 (cnY (bs (jn 61 l)) 61 + (1 :
  Int)) then IntKind.wrap IntKind.i64 (Int.ofNat (List.length (Array.toList (ByteArray.data (bs (jn 61 l))))) + (1 : Int)) else IntKind.wrap IntKind.i64 (cnY (bs (jn 61 l))
  61 + (1 : Int))) <= (16777216 : Int))) (∃ g : SP, ((okSp g) /\ ((bs (jn g.1 (List.drop 0 g.2)) = bs (jn 61 l)) /\ ((ByteArray.mk (Array.mk [g.1]) = ByteArray.mk #[61]) /\
  (((0 : Int) = (0 : Int)) /\ (((↑(List.length g.2 - 1) : Int) = IntKind.wrap IntKind.i64 ((if IntKind.wrap IntKind.i64 (Int.ofNat (List.length (Array.toList (ByteArray.data
  (bs (jn 61 l))))) + (1 : Int)) < IntKind.wrap IntKind.i64 (cnY (bs (jn 61 l)) 61 + (1 : Int)) then IntKind.wrap IntKind.i64 (Int.ofNat (List.length (Array.toList
  (ByteArray.data (bs (jn 61 l))))) + (1 : Int)) else IntKind.wrap IntKind.i64 (cnY (bs (jn 61 l)) 61 + (1 : Int))) - (1 : Int))) /\ ((0 = 0) /\ ((List.length g.2 =
  Int.toNat (if IntKind.wrap IntKind.i64 (Int.ofNat (List.length (Array.toList (ByteArray.data (bs (jn 61 l))))) + (1 : Int)) < IntKind.wrap IntKind.i64 (cnY (bs (jn 61 l))
  61 + (1 : Int)) then IntKind.wrap IntKind.i64 (Int.ofNat (List.length (Array.toList (ByteArray.data (bs (jn 61 l))))) + (1 : Int)) else IntKind.wrap IntKind.i64 (cnY (bs
  (jn 61 l)) 61 + (1 : Int)))) /\ (((0 : Int) = (0 : Int)) /\ ((Eq (α := List Value) (gC enS (stL g.2 0)) (List.replicate (Int.toNat (if IntKind.wrap IntKind.i64 (Int.ofNat
  (List.length (Array.toList (ByteArray.data (bs (jn 61 l))))) + (1 : Int)) < IntKind.wrap IntKind.i64 (cnY (bs (jn 61 l)) 61 + (1 : Int)) then IntKind.wrap IntKind.i64
  (Int.ofNat (List.length (Array.toList (ByteArray.data (bs (jn 61 l))))) + (1 : Int)) else IntKind.wrap IntKind.i64 (cnY (bs (jn 61 l)) 61 + (1 : Int)))) (Value.string
  (ByteArray.mk #[])))) /\ ((Plain (gC enS (stL g.2 0))) /\ (∀ (y : Unit), ((True) → (br (decide ((0 : Int) <= (↑(List.length g.2 - 1) : Int) /\ (↑(List.length g.2 - 1) :
  Int) < (↑(List.length g.2) : Int))) (br (decide (0 + Int.toNat (↑(List.length g.2 - 1) : Int) * 1 + 1 <= List.length (gC enS (stL g.2 (List.length g.2 - 1))))) (br (decide
  ((0 : Int) <= (↑0 : Int) /\ (0 : Int) <= IntKind.wrap IntKind.i64 ((↑(List.length g.2 - 1) : Int) + (1 : Int)) /\ IntKind.wrap IntKind.i64 ((↑(List.length g.2 - 1) : Int)
  + (1 : Int)) <= (↑(List.length g.2) : Int))) ((0 = 0) /\ ((List.length l = Int.toNat (IntKind.wrap IntKind.i64 ((↑(List.length g.2 - 1) : Int) + (1 : Int))) - 0) /\ ((Eq
  (α := List Value) (gC enS l) (ovr (gC enS (stL g.2 (List.length g.2 - 1))) (0 + Int.toNat (↑(List.length g.2 - 1) : Int) * 1) [Value.string (bs (jn g.1 (List.drop
  (List.length g.2 - 1) g.2)))])) /\ ((Plain (gC enS l)) /\ True)))) False) False) False)))))))))))))) False)) := by kernel_rfl
theorem oIy_ok {args : List Value} {v : Value} (h : oIy args = some v) : args.all (flat 12) = true ∧ flat 12 v = true ∧ Flat Tryz.prog 99 args v := by
  unfold oIy at h
  split at h
  · rename_i a c
    simp only [Option.some.injEq] at h
    subst h
    refine ⟨rfl, rfl, fun w _ => ?_⟩
    refine (Any.stringslite_IndexByte Tryz.lays217 a c w).mono ?_
    rintro e w' ⟨rfl, rfl⟩
    refine ⟨?_, below_same _⟩
    unfold ixY; rw [sealV_eq]
  · simp at h
theorem oCy_ok {args : List Value} {v : Value} (h : oCy args = some v) : args.all (flat 12) = true ∧ flat 12 v = true ∧ Flat Tryz.prog 51 args v := by
  unfold oCy at h
  split at h
  · rename_i a c
    simp only [Option.some.injEq] at h
    subst h
    refine ⟨rfl, rfl, fun w _ => ?_⟩
    refine (Any.strings_Count_one Tryz.lays138 a c w).mono ?_
    rintro e w' ⟨rfl, rfl⟩
    refine ⟨?_, below_same _⟩
    unfold cnY; rw [sealV_eq]; rfl
  · simp at h
theorem eIy_ok : EntOk Tryz.prog eIy := eFl_ok fun _ _ h => oIy_ok h
theorem eCy_ok : EntOk Tryz.prog eCy := eFl_ok fun _ _ h => oCy_ok h
theorem tIy_ok : ∀ x ∈ tIy, EntOk Tryz.prog x := all_cons eIy_ok (all_nil)
theorem ixY_eq (l : List UInt8) (c : UInt8) : ixY (bs l) (c.toNat : Int) = Lib.indexByte l c := by
  unfold ixY; rw [sealV_eq]
  show Lib.indexByte l ((c.toNat : Int)).toNat.toUInt8 = _
  rw [Int.toNat_natCast]; exact congrArg _ UInt8.ofNat_toNat
theorem Id_con (s : ByteArray) (c : UInt8) : Con Tryz.prog 52 [.string s, .string ⟨#[c]⟩] [] (.int .i64 (ixY s c.toNat)) [] := by
  refine con_vc (E := EtIy) mixed (calls_envT tIy_ok) (lok_envT _ _) (M := noM) lm_none (Id_vc s c _) ?_
  have hb : byteAt (⟨⟨[c]⟩⟩ : ByteArray) 0 = (c.toNat : Int) := byteAt_bs (l := [c]) (i := 0) Nat.zero_lt_one
  simp only [ofNat_eq, toNat_cast, Nat.zero_add, Nat.add_zero, Nat.mul_one, List.drop_zero, bCells_len, bCells_drop, bCells_take, bCells_app, bCells_one, bCells_plain, List.length_replicate, List.length_append, List.length_take, List.length_drop, List.take_length, and_true, true_and, and_self, decide_true, List.length_nil, List.length_cons, Nat.sub_zero, dB_mk, dB_ro, List.take_zero, hb]
  refine br_intro (fun h => ?_) (fun _ => trivial)
  rw [show (⟨⟨[c]⟩⟩ : ByteArray) = bs [c] from rfl, show s = bs (L s) from rfl, strEq_bs] at h
  have h : [c] = L s := of_decide_eq_true h
  rw [show s = bs (L s) from rfl, ← h, ixY_eq]
  simp [Lib.indexByte]
theorem eId_ok : EntOk Tryz.prog eId := entC_ok (by
  intro a rows p v news h hp
  split at h <;> simp only [Option.some.injEq, Prod.mk.injEq, reduceCtorEq] at h
  obtain ⟨rfl, rfl, rfl⟩ := h
  exact Id_con _ _)
theorem tSp_ok : ∀ x ∈ tSp, EntOk Tryz.prog x := all_cons eCy_ok (all_cons eId_ok (all_nil))
theorem ix_app (c : UInt8) (x r : List UInt8) (h : c ∉ x) : Lib.indexByte (x ++ c :: r) c = (x.length : Int) := by
  induction x with
  | nil => simp [Lib.indexByte]
  | cons b x ih =>
    have h1 : ¬ b = c := fun e => h (by rw [e]; exact List.mem_cons_self ..)
    have h2 := ih (fun e => h (List.mem_cons_of_mem _ e))
    show (if b == c then 0 else if Lib.indexByte (x ++ c :: r) c == -1 then -1 else Lib.indexByte (x ++ c :: r) c + 1) = _
    rw [h2, if_neg (by simpa using h1), if_neg (by simp), List.length_cons]; omega
theorem jn_cons (c : UInt8) (x : List UInt8) (r : List (List UInt8)) (h : r ≠ []) : jn c (x :: r) = x ++ c :: jn c r := by
  cases r with
  | nil => exact absurd rfl h
  | cons y r => rfl
theorem jn_count (c : UInt8) : ∀ l : List (List UInt8), (∀ x ∈ l, c ∉ x) → (jn c l).count c = l.length - 1
  | [], _ => rfl
  | [x], h => List.count_eq_zero.2 (h x (List.mem_cons_self ..))
  | x :: y :: r, h => by
    have ih := jn_count c (y :: r) (fun z hz => h z (List.mem_cons_of_mem _ hz))
    rw [jn_cons c x (y :: r) (by simp), List.count_append, List.count_eq_zero.2 (h x (List.mem_cons_self ..)), List.count_cons_self, ih]
    simp only [List.length_cons]; omega
theorem jn_drop_le (c : UInt8) : ∀ (l : List (List UInt8)), l.length ≤ (jn c l).length + 1
  | [] => by simp
  | [x] => by simp
  | x :: y :: r => by
    have ih := jn_drop_le c (y :: r)
    rw [jn_cons c x (y :: r) (List.cons_ne_nil _ _)]
    simp only [List.length_cons, List.length_append] at ih ⊢; omega
theorem jn_len (c : UInt8) (l : List (List UInt8)) : ∀ i, (jn c (l.drop i)).length ≤ (jn c l).length := by
  intro i
  induction i with
  | zero => exact Nat.le_refl _
  | succ i ih =>
    refine Nat.le_trans ?_ ih
    by_cases h : i < l.length
    · rw [List.drop_eq_getElem_cons h]
      by_cases h2 : l.drop (i + 1) = []
      · rw [h2]; exact Nat.zero_le _
      · rw [jn_cons _ _ _ h2, List.length_append, List.length_cons]; omega
    · rw [List.drop_eq_nil_of_le (by omega)]; exact Nat.zero_le _
theorem stL_set (l : List (List UInt8)) (i : Nat) (h : i < l.length) : (stL l i).set i l[i] = stL l (i + 1) := by
  unfold stL
  have e : l.length - i = (l.length - (i + 1)) + 1 := by omega
  rw [List.set_append, if_neg (by rw [List.length_take]; omega), show i - (l.take i).length = 0 by rw [List.length_take]; omega, e, List.replicate_succ, List.set_cons_zero, List.take_succ_eq_append_getElem h, List.append_assoc]; rfl
theorem stL_len (l : List (List UInt8)) (i : Nat) (h : i ≤ l.length) : (stL l i).length = l.length := by
  unfold stL; rw [List.length_append, List.length_take, List.length_replicate]; omega
theorem sPl (l : List (List UInt8)) : Plain (gC enS l) := gC_plain (by intro a v hv; simp [enS] at hv; rw [hv]; rfl) _
theorem sLen (l : List (List UInt8)) : (gC enS l).length = l.length := by rw [gC_len (en := enS) (k := 1) (fun _ => rfl), Nat.mul_one]
theorem sOvr (l : List (List UInt8)) (i : Nat) (x : List UInt8) (h : i < l.length) : ovr (gC enS l) (i * 1) [.string (bs x)] = gC enS (l.set i x) := gC_set (en := enS) (k := 1) (fun _ => rfl) l i x h
theorem Sp_piece : PieceOk EtSp 0 (34, pSp, specSp) := by
  refine piece_loop mixed (calls_envT tSp_ok) (lok_envT _ _) lm_none (n := 60) (by kernel_rfl) (fun _ => (0 : Nat)) (fun g i => i < g.l.length) (fun g i => g.l.length - i) (sl := slSp) (rl := rlSp) (fun g hg => hg.1) (fun g i hg hi => ?_)
  refine (Sp_round g i _ _).mpr ?_
  obtain ⟨g0, g1, g2, g3⟩ := hg
  have hL : ∀ l : List UInt8, (bs l).data.toList.length = l.length := fun _ => rfl
  simp only [ofNat_eq, toNat_cast, Nat.zero_add, Nat.add_zero, Nat.mul_one, List.drop_zero, bCells_len, bCells_drop, bCells_take, bCells_app, bCells_one, bCells_plain, List.length_replicate, List.length_append, List.length_take, List.length_drop, List.take_length, and_true, true_and, and_self, decide_true, List.length_nil, List.length_cons, Nat.sub_zero, dB_mk, dB_ro, List.take_zero, hL, ixY_eq, sLen, sPl]
  refine br_if (fun h => ?_) (fun h => ?_)
  · have h1 : i + 1 < g.l.length := by omega
    have hne : g.l.drop (i + 1) ≠ [] := by rw [Ne, List.drop_eq_nil_iff]; omega
    have ej : jn g.c (g.l.drop i) = g.l[i] ++ g.c :: jn g.c (g.l.drop (i + 1)) := by rw [List.drop_eq_getElem_cons hi, jn_cons _ _ _ hne]
    have hle := jn_len g.c g.l i
    have hx := ix_app g.c g.l[i] (jn g.c (g.l.drop (i + 1))) (g3 _ (List.getElem_mem hi))
    have hjl := congrArg List.length ej
    rw [List.length_append, List.length_cons] at hjl
    rw [ej] at hle ⊢
    rw [hx]
    simp only [List.length_append, List.length_cons] at hle
    have w0 : IntKind.i64.wrap ((g.l[i].length : Int) + 0) = ((g.l[i].length : Nat) : Int) := by rw [wr64_id (by unfold I64; omega)]; omega
    have w1 : IntKind.i64.wrap ((g.l[i].length : Int) + 1) = ((g.l[i].length + 1 : Nat) : Int) := by rw [wr64_id (by unfold I64; omega)]; omega
    have wi : IntKind.i64.wrap ((i : Int) + 1) = ((i + 1 : Nat) : Int) := by rw [wr64_id (by unfold I64; omega)]; omega
    have s0 : ∀ (a : List UInt8) (b : UInt8) (r : List UInt8), sub (bs (a ++ b :: r)) 0 a.length = bs a := fun a b r => by
      show bs (((a ++ b :: r).drop 0).take (a.length - 0)) = _
      simp
    have s1 : ∀ (a : List UInt8) (b : UInt8) (r : List UInt8), sub (bs (a ++ b :: r)) (a.length + 1) (a.length + (r.length + 1)) = bs r := fun a b r => by
      show bs (((a ++ b :: r).drop (a.length + 1)).take (a.length + (r.length + 1) - (a.length + 1))) = _
      rw [show a ++ b :: r = (a ++ [b]) ++ r by simp, show a.length + 1 = (a ++ [b]).length by simp, List.drop_left, List.take_of_length_le (by simp only [List.length_append, List.length_cons, List.length_nil]; omega)]
    have cst : ∀ n : Nat, Int.ofNat n = (n : Int) := fun _ => rfl
    simp only [cst, Int.natCast_one, w0, w1, wi, Int.toNat_natCast, List.length_append, List.length_cons, s0, s1, stL_len _ _ (Nat.le_of_lt hi)]
    have ho := sOvr (stL g.l i) i g.l[i] (by rw [stL_len _ _ (Nat.le_of_lt hi)]; exact hi)
    rw [Nat.mul_one, stL_set _ _ hi] at ho
    exact br_nd (by omega) (br_dec (by omega) (br_dec (by omega) (br_dec (by omega) (br_dec (by omega) ⟨i + 1, h1, by omega, rfl, rfl, ho.symm⟩))))
  · have : i = g.l.length - 1 := by omega
    subst this
    exact ⟨(), rfl, rfl, rfl⟩
theorem getD_at (l : List (List UInt8)) (i : Nat) (h : i < l.length) : l.getD i [] = l[i] := by simp [List.getD, h]
theorem stL_last (l : List (List UInt8)) (h : 0 < l.length) : (stL l (l.length - 1)).set (l.length - 1) (jnL l) = l := by
  have h1 : l.length - 1 < l.length := by omega
  have e := stL_set l (l.length - 1) h1
  have e2 : stL l (l.length - 1 + 1) = l := by unfold stL; rw [show l.length - 1 + 1 = l.length by omega, List.take_length, Nat.sub_self]; simp
  rw [e2] at e
  unfold jnL
  rw [getD_at _ _ h1]
  exact e
theorem jn_last (c : UInt8) (l : List (List UInt8)) (h : 0 < l.length) : jn c (l.drop (l.length - 1)) = jnL l := by
  have h1 : l.length - 1 < l.length := by omega
  rw [List.drop_eq_getElem_cons h1, List.drop_eq_nil_of_le (by omega)]
  unfold jnL
  rw [getD_at _ _ h1]; rfl
theorem cnY_eq (l : List UInt8) (c : UInt8) : cnY (bs l) c = (l.count c : Nat) := by unfold cnY; rw [sealV_eq]; rfl
theorem Sa_con (l : List (List UInt8)) (h : okSp ⟨32, l⟩) : Con Tryz.prog 34 [.string (bs (jn 32 l)), .string ⟨#[32]⟩, .int .i64 0, .int .i64 (-1)] [] (.slice (some ⟨0, 0, none⟩) l.length 1) [gOwn enS l] := by
  refine con_vc (E := EtSp) mixed (calls_envT tSp_ok) (lok_envT _ _) (M := mSp) (lm_one Sp_piece) (Sa_vc l) ?_
  obtain ⟨g0, g1, g2, g3⟩ := id h
  have hL : ∀ l : List UInt8, (bs l).data.toList.length = l.length := fun _ => rfl
  simp only at g0 g1 g2 g3
  have hc := jn_count 32 l g3
  have hd := jn_drop_le 32 l
  have cst : ∀ n : Nat, Int.ofNat n = (n : Int) := fun _ => rfl
  have w1 : IntKind.i64.wrap (((jn 32 l).length : Int) + 1) = (((jn 32 l).length + 1 : Nat) : Int) := by rw [wr64_id (by unfold I64; omega)]; omega
  have w2 : IntKind.i64.wrap (((l.length - 1 : Nat) : Int) + 1) = ((l.length : Nat) : Int) := by rw [wr64_id (by unfold I64; omega)]; omega
  have w3 : IntKind.i64.wrap (((l.length : Nat) : Int) - 1) = ((l.length - 1 : Nat) : Int) := by rw [wr64_id (by unfold I64; omega)]; omega
  simp only [ofNat_eq, toNat_cast, Nat.zero_add, Nat.add_zero, Nat.mul_one, List.drop_zero, bCells_len, bCells_drop, bCells_take, bCells_app, bCells_one, bCells_plain, List.length_replicate, List.length_append, List.length_take, List.length_drop, List.take_length, and_true, true_and, and_self, decide_true, List.length_nil, List.length_cons, Nat.sub_zero, dB_mk, dB_ro, List.take_zero, hL, cst, sLen, sPl, cnY_eq, hc, w1, w2]
  rw [if_neg (by omega)]
  simp only [Int.toNat_natCast, w3]
  have hst : gC enS (stL l 0) = List.replicate l.length (.string ⟨#[]⟩) := by
    unfold stL; rw [List.take_zero, List.nil_append, Nat.sub_zero]
    generalize l.length = n
    induction n with
    | zero => rfl
    | succ n ih => rw [List.replicate_succ, List.replicate_succ, gC_cons, ih]; rfl
  refine br_dec (by omega) ⟨⟨32, l⟩, h, rfl, rfl, rfl, rfl, hst, fun _ _ => ?_⟩
  have ho := sOvr (stL l (l.length - 1)) (l.length - 1) (jnL l) (by rw [stL_len _ _ (by omega)]; omega)
  rw [Nat.mul_one, stL_last l g0] at ho
  simp only [w2, stL_len l _ (Nat.sub_le l.length 1), Int.toNat_natCast, jn_last 32 l g0]
  exact br_dec (by omega) (br_dec (by omega) (br_dec (by omega) (by first | exact ho.symm | exact ⟨rfl, ho.symm⟩ | exact ⟨trivial, ho.symm⟩)))
theorem Sb_con (l : List (List UInt8)) (h : okSp ⟨61, l⟩) : Con Tryz.prog 34 [.string (bs (jn 61 l)), .string ⟨#[61]⟩, .int .i64 0, .int .i64 (-1)] [] (.slice (some ⟨0, 0, none⟩) l.length 1) [gOwn enS l] := by
  refine con_vc (E := EtSp) mixed (calls_envT tSp_ok) (lok_envT _ _) (M := mSp) (lm_one Sp_piece) (Sb_vc l) ?_
  obtain ⟨g0, g1, g2, g3⟩ := id h
  have hL : ∀ l : List UInt8, (bs l).data.toList.length = l.length := fun _ => rfl
  simp only at g0 g1 g2 g3
  have hc := jn_count 61 l g3
  have hd := jn_drop_le 61 l
  have cst : ∀ n : Nat, Int.ofNat n = (n : Int) := fun _ => rfl
  have w1 : IntKind.i64.wrap (((jn 61 l).length : Int) + 1) = (((jn 61 l).length + 1 : Nat) : Int) := by rw [wr64_id (by unfold I64; omega)]; omega
  have w2 : IntKind.i64.wrap (((l.length - 1 : Nat) : Int) + 1) = ((l.length : Nat) : Int) := by rw [wr64_id (by unfold I64; omega)]; omega
  have w3 : IntKind.i64.wrap (((l.length : Nat) : Int) - 1) = ((l.length - 1 : Nat) : Int) := by rw [wr64_id (by unfold I64; omega)]; omega
  simp only [ofNat_eq, toNat_cast, Nat.zero_add, Nat.add_zero, Nat.mul_one, List.drop_zero, bCells_len, bCells_drop, bCells_take, bCells_app, bCells_one, bCells_plain, List.length_replicate, List.length_append, List.length_take, List.length_drop, List.take_length, and_true, true_and, and_self, decide_true, List.length_nil, List.length_cons, Nat.sub_zero, dB_mk, dB_ro, List.take_zero, hL, cst, sLen, sPl, cnY_eq, hc, w1, w2]
  rw [if_neg (by omega)]
  simp only [Int.toNat_natCast, w3]
  have hst : gC enS (stL l 0) = List.replicate l.length (.string ⟨#[]⟩) := by
    unfold stL; rw [List.take_zero, List.nil_append, Nat.sub_zero]
    generalize l.length = n
    induction n with
    | zero => rfl
    | succ n ih => rw [List.replicate_succ, List.replicate_succ, gC_cons, ih]; rfl
  refine br_dec (by omega) ⟨⟨61, l⟩, h, rfl, rfl, rfl, rfl, hst, fun _ _ => ?_⟩
  have ho := sOvr (stL l (l.length - 1)) (l.length - 1) (jnL l) (by rw [stL_len _ _ (by omega)]; omega)
  rw [Nat.mul_one, stL_last l g0] at ho
  simp only [w2, stL_len l _ (Nat.sub_le l.length 1), Int.toNat_natCast, jn_last 61 l g0]
  exact br_dec (by omega) (br_dec (by omega) (br_dec (by omega) (by first | exact ho.symm | exact ⟨rfl, ho.symm⟩ | exact ⟨trivial, ho.symm⟩)))
end Go.Proofs.YtnbfhihibgdgpaaGreatDoor.sw
