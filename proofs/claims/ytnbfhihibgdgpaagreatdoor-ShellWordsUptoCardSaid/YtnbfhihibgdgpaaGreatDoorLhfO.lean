/- The book of codes, opened. -/
import Derived.Test.YtnbfhihibgdgpaaGreatDoorSz9
import Derived.Test.YtnbfhihibgdgpaaGreatDoorRows
import Derived.Test.YtnbfhihibgdgpaaGreatDoorLhfL
set_option maxRecDepth 20000
set_option linter.unusedSimpArgs false
set_option linter.unusedVariables false
namespace Go.Proofs.YtnbfhihibgdgpaaGreatDoor.hf
open Go Go.Ev Go.Sy Go.RowKit Go.Proofs.YtnbfhihibgdgpaaGreatDoor.gl Go.Proofs.YtnbfhihibgdgpaaGreatDoor.tk
def nC (l : List Nat) : List Value := l.map fun n => Value.int .i64 ((n : Nat) : Int)
def tbl (m : Nat) (f : Nat → Nat) : List Nat := (List.range m).map f
def upd (f : Nat → Nat) (i v : Nat) : Nat → Nat := fun k => if k = i then v else f k
def cntL : List Nat := [0, 0, 0, 0, 0, 10, 26, 32, 6, 0, 5, 3, 2, 6, 2, 3, 0, 0, 0, 3, 8, 13, 26, 29, 12, 4, 15, 19, 29, 0, 4]
def fstL : List Nat := [0, 0, 0, 0, 0, 0, 20, 92, 248, 508, 1016, 2042, 4090, 8184, 16380, 32764, 65534, 131068, 262136, 524272, 1048550, 2097116, 4194258, 8388568, 16777194, 33554412, 67108832, 134217694, 268435426, 536870910, 1073741820]
def stL : List Nat := [0, 0, 0, 0, 0, 0, 10, 36, 68, 74, 74, 79, 82, 84, 90, 92, 95, 95, 95, 95, 98, 106, 119, 145, 174, 186, 190, 205, 224, 253, 253]
def posL : List Nat := [84, 145, 224, 225, 226, 227, 228, 229, 230, 174, 253, 231, 232, 254, 233, 234, 235, 236, 237, 238, 239, 240, 255, 241, 242, 243, 244, 245, 246, 247, 248, 249,
10, 74, 75, 82, 85, 11, 68, 79, 76, 77, 69, 80, 70, 12, 13, 14, 0, 1, 2, 15, 16, 17, 18, 19, 20, 21, 36, 71, 92, 22, 83, 78,
86, 23, 37, 38, 39, 40, 41, 42, 43, 44, 45, 46, 47, 48, 49, 50, 51, 52, 53, 54, 55, 56, 57, 58, 72, 59, 73, 87, 95, 88, 90, 24,
93, 3, 25, 4, 26, 5, 27, 28, 29, 6, 60, 61, 30, 31, 32, 7, 33, 62, 34, 8, 9, 35, 63, 64, 65, 66, 67, 94, 81, 91, 89, 250,
98, 119, 99, 100, 120, 121, 122, 146, 123, 147, 148, 149, 150, 151, 175, 152, 176, 177, 124, 153, 178, 154, 155, 156, 157, 106, 125, 158, 126, 159, 160, 179,
127, 107, 101, 128, 129, 161, 162, 108, 163, 130, 131, 180, 109, 132, 164, 165, 110, 111, 133, 112, 166, 134, 167, 168, 102, 135, 136, 137, 169, 138, 139, 170,
190, 191, 103, 96, 140, 171, 141, 186, 192, 193, 194, 205, 206, 195, 181, 187, 97, 113, 196, 207, 208, 197, 209, 182, 114, 115, 198, 199, 251, 210, 211, 212,
104, 183, 105, 116, 142, 117, 118, 172, 143, 144, 188, 189, 184, 185, 200, 173, 201, 213, 202, 203, 214, 215, 216, 217, 218, 252, 219, 220, 221, 222, 223, 204,
256]
def ordL : List Nat := [48, 49, 50, 97, 99, 101, 105, 111, 115, 116, 32, 37, 45, 46, 47, 51, 52, 53, 54, 55, 56, 57, 61, 65, 95, 98, 100, 102, 103, 104, 108, 109,
110, 112, 114, 117, 58, 66, 67, 68, 69, 70, 71, 72, 73, 74, 75, 76, 77, 78, 79, 80, 81, 82, 83, 84, 85, 86, 87, 89, 106, 107, 113, 118,
119, 120, 121, 122, 38, 42, 44, 59, 88, 90, 33, 34, 40, 41, 63, 39, 43, 124, 35, 62, 0, 36, 64, 91, 93, 126, 94, 125, 60, 96, 123, 92,
195, 208, 128, 130, 131, 162, 184, 194, 224, 226, 153, 161, 167, 172, 176, 177, 179, 209, 216, 217, 227, 229, 230, 129, 132, 133, 134, 136, 146, 154, 156, 160,
163, 164, 169, 170, 173, 178, 181, 185, 186, 187, 189, 190, 196, 198, 228, 232, 233, 1, 135, 137, 138, 139, 140, 141, 143, 147, 149, 150, 151, 152, 155, 157,
158, 165, 166, 168, 174, 175, 180, 182, 183, 188, 191, 197, 231, 239, 9, 142, 144, 145, 148, 159, 171, 206, 215, 225, 236, 237, 199, 207, 234, 235, 192, 193,
200, 201, 202, 205, 210, 213, 218, 219, 238, 240, 242, 243, 255, 203, 204, 211, 212, 214, 221, 222, 223, 241, 244, 245, 246, 247, 248, 250, 251, 252, 253, 254,
2, 3, 4, 5, 6, 7, 8, 11, 12, 14, 15, 16, 17, 18, 19, 20, 21, 23, 24, 25, 26, 27, 28, 29, 30, 31, 127, 220, 249, 10, 13, 22,
256]
def cntN (z : Nat) : Nat := cntL.getD z 0
def fstN (z : Nat) : Nat := fstL.getD z 0
def stN (z : Nat) : Nat := stL.getD z 0
def posN (s : Nat) : Nat := posL.getD s 0
def ordN (r : Nat) : Nat := ordL.getD r 0
def used (z : Nat) : Nat → Nat
  | 0 => 0
  | i + 1 => used z i + if hLen i = z then 1 else 0
def codeN (s : Nat) : Nat := fstN (hLen s) + used (hLen s) s
def f1 (i k : Nat) : Nat := if k < 257 then (if k < i then hLen k else 0) else if 802 ≤ k ∧ k < 833 then used (k - 802) i else 0
def f2 (n k : Nat) : Nat := if 771 ≤ k ∧ k < 802 then (if k - 771 ≤ n then fstN (k - 771) else 0) else if 833 ≤ k then (if k - 833 ≤ n then stN (k - 833) else 0) else f1 257 k
def f3 (i k : Nat) : Nat := if 257 ≤ k ∧ k < 514 then (if k - 257 < i then codeN (k - 257) else 0) else if 514 ≤ k ∧ k < 771 then (if ordN (k - 514) < i then ordN (k - 514) else 0) else f2 30 k
def cdN (n : Nat) : Nat := if n = 0 then 0 else fstN n + cntN n
def atN (n : Nat) : Nat := if n = 0 then 0 else stN n + cntN n
theorem f1_ex (f : Nat → List Nat) : ∃ g, g = f := ⟨f, rfl⟩
noncomputable def a1 : Nat → List Nat := Classical.choose (f1_ex fun i => tbl 864 (f1 i))
noncomputable def a2 : Nat → List Nat := Classical.choose (f1_ex fun i => tbl 864 (f2 i))
noncomputable def a3 : Nat → List Nat := Classical.choose (f1_ex fun i => tbl 864 (f3 i))
noncomputable def u3 : Nat → List Nat := Classical.choose (f1_ex fun i => tbl 31 (fun z => used z i))
noncomputable def c2 : Nat → List Nat := Classical.choose (f1_ex fun n => [cdN n, atN n])
noncomputable def cd (n : Nat) : Nat := (c2 n).getD 0 0
noncomputable def at_ (n : Nat) : Nat := (c2 n).getD 1 0
def bkR (l : List Nat) : Row := ⟨nC l, false, .cells true⟩
def pO1 : List Nat := [0, 1, 0, 1, 1]
def pO2 : List Nat := [0, 1, 0, 1, 1, 1, 1]
def pO3 : List Nat := [0, 1, 0, 1, 1, 1, 1, 1, 1]
def slO1 (i : Nat) : List (Nat × Value) := [(1, .pointer (some ⟨0, 0, none⟩)), (11, .int .i64 (i : Nat))]
noncomputable def slO2 (n : Nat) : List (Nat × Value) := [(1, .pointer (some ⟨0, 0, none⟩)), (3, .int .i64 (cd n : Nat)), (4, .int .i64 (at_ n : Nat)), (5, .int .i64 ((n + 1 : Nat) : Int))]
def slO3 (i : Nat) : List (Nat × Value) := [(1, .pointer (some ⟨0, 0, none⟩)), (6, .pointer (some ⟨1, 0, none⟩)), (74, .agg ⟨nC lenL⟩), (75, .int .i64 (i : Nat))]
noncomputable def wsO1 : List (Gate Unit) := [⟨.exit 0, fun _ => True, fun _ => [(1, .pointer (some ⟨0, 0, none⟩))], fun _ => [(0, bkR (a1 257))], 1⟩]
noncomputable def wsO2 : List (Gate Unit) := [⟨.exit 2, fun _ => True, fun _ => [(1, .pointer (some ⟨0, 0, none⟩))], fun _ => [(0, bkR (a2 30))], 1⟩]
noncomputable def wsO3 : List (Gate Unit) := [⟨.exit 4, fun _ => True, fun _ => [(1, .pointer (some ⟨0, 0, none⟩))], fun _ => [(0, bkR (a3 257))], 2⟩]
noncomputable def specO1 : Sy.Spec := specOf 0 1 116 (fun _ : Unit => True) (fun _ => slO1 0) (fun _ => [(0, bkR (a1 0))]) (fun _ => wsO1)
noncomputable def specO2 : Sy.Spec := specOf 0 1 116 (fun _ : Unit => True) (fun _ => slO2 0) (fun _ => [(0, bkR (a2 0))]) (fun _ => wsO2)
noncomputable def specO3 : Sy.Spec := specOf 0 2 116 (fun _ : Unit => True) (fun _ => slO3 0) (fun _ => [(0, bkR (a3 0)), (1, bkR (u3 0))]) (fun _ => wsO3)
noncomputable def mO := mOf [(331, pO1, specO1), (331, pO2, specO2), (331, pO3, specO3)]
noncomputable def eLen : EntM := entC 330 fun a r => match a, r with
  | [.int .i64 n], [] => some (True, .int .i64 (hLenI n), [])
  | _, _ => none
noncomputable def tO : List EntM := [eLen]
noncomputable abbrev EtO : Env := envT Tryz.prog tO
theorem O1_round (i : Nat) (Inv : Nat → Prop) (m : Nat → Nat) : mev EtO noM 60 331 (0 :: pO1) false (codeOf Tryz.prog 331 (0 :: pO1)) ⟨mkOv (slO1 i), 116, []⟩ none ⟨mkR [(0, bkR (a1 i))], 1⟩ (roundK 0 1 116 Inv m slO1 (fun i => [(0, bkR (a1 i))]) wsO1 i) =
  (br (decide ((↑i : Int) < (257 : Int))) ((((True /\ True) /\ (True /\ (True /\ True)))) /\ (br (decide ((0 : Int) <= (↑i : Int) /\ (↑i : Int) < (257 : Int))) (br (decide
  (0 + Int.toNat (↑i : Int) * 1 + 1 <= List.length (nC (a1 i)))) (br (decide ((0 : Int) <= (↑i : Int) /\ (↑i : Int) < (257 : Int))) ((Eq (α := Option Value) ((ovr (nC (a1
  i)) (0 + Int.toNat (↑i : Int) * 1) [Value.int IntKind.i64 (hLenI (↑i : Int))])[0 + Int.toNat (↑i : Int) * 1]?) (some (Value.int IntKind.i64 (cellI (ovr (nC (a1 i)) (0 +
  Int.toNat (↑i : Int) * 1) [Value.int IntKind.i64 (hLenI (↑i : Int))]) (0 + Int.toNat (↑i : Int) * 1))))) /\ (br (decide ((0 : Int) <= cellI (ovr (nC (a1 i)) (0 + Int.toNat
  (↑i : Int) * 1) [Value.int IntKind.i64 (hLenI (↑i : Int))]) (0 + Int.toNat (↑i : Int) * 1) /\ cellI (ovr (nC (a1 i)) (0 + Int.toNat (↑i : Int) * 1) [Value.int IntKind.i64
  (hLenI (↑i : Int))]) (0 + Int.toNat (↑i : Int) * 1) < (31 : Int))) ((Eq (α := Option Value) ((ovr (nC (a1 i)) (0 + Int.toNat (↑i : Int) * 1) [Value.int IntKind.i64 (hLenI
  (↑i : Int))])[802 + Int.toNat (cellI (ovr (nC (a1 i)) (0 + Int.toNat (↑i : Int) * 1) [Value.int IntKind.i64 (hLenI (↑i : Int))]) (0 + Int.toNat (↑i : Int) * 1)) * 1]?)
  (some (Value.int IntKind.i64 (cellI (ovr (nC (a1 i)) (0 + Int.toNat (↑i : Int) * 1) [Value.int IntKind.i64 (hLenI (↑i : Int))]) (802 + Int.toNat (cellI (ovr (nC (a1 i)) (0
  + Int.toNat (↑i : Int) * 1) [Value.int IntKind.i64 (hLenI (↑i : Int))]) (0 + Int.toNat (↑i : Int) * 1)) * 1))))) /\ (br (decide ((0 : Int) <= cellI (ovr (nC (a1 i)) (0 +
  Int.toNat (↑i : Int) * 1) [Value.int IntKind.i64 (hLenI (↑i : Int))]) (0 + Int.toNat (↑i : Int) * 1) /\ cellI (ovr (nC (a1 i)) (0 + Int.toNat (↑i : Int) * 1) [Value.int
  IntKind.i64 (hLenI (↑i : Int))]) (0 + Int.toNat (↑i : Int) * 1) < (31 : Int))) (br (decide (802 + Int.toNat (cellI (ovr (nC (a1 i)) (0 + Int.toNat (↑i : Int) * 1)
  [Value.int IntKind.i64 (hLenI (↑i : Int))]) (0 + Int.toNat (↑i : Int) * 1)) * 1 + 1 <= List.length (ovr (nC (a1 i)) (0 + Int.toNat (↑i : Int) * 1) [Value.int IntKind.i64
  (hLenI (↑i : Int))]))) ((Eq (α := Option Value) ((ovr (nC (a1 i)) (0 + Int.toNat (↑i : Int) * 1) [Value.int IntKind.i64 (hLenI (↑i : Int))])[0 + Int.toNat (↑i : Int) *
  1]?) (some (Value.int IntKind.i64 (cellI (ovr (nC (a1 i)) (0 + Int.toNat (↑i : Int) * 1) [Value.int IntKind.i64 (hLenI (↑i : Int))]) (0 + Int.toNat (↑i : Int) * 1))))) /\
  ((Value.int IntKind.i64 (cellI (ovr (nC (a1 i)) (0 + Int.toNat (↑i : Int) * 1) [Value.int IntKind.i64 (hLenI (↑i : Int))]) (0 + Int.toNat (↑i : Int) * 1)) = Value.int
  IntKind.i64 (cellI (ovr (nC (a1 i)) (0 + Int.toNat (↑i : Int) * 1) [Value.int IntKind.i64 (hLenI (↑i : Int))]) (0 + Int.toNat (↑i : Int) * 1))) /\ ((Eq (α := Option Value)
  ((ovr (nC (a1 i)) (0 + Int.toNat (↑i : Int) * 1) [Value.int IntKind.i64 (hLenI (↑i : Int))])[802 + Int.toNat (cellI (ovr (nC (a1 i)) (0 + Int.toNat (↑i : Int) * 1)
  [Value.int IntKind.i64 (hLenI (↑i : Int))]) (0 + Int.toNat (↑i : Int) * 1)) * 1]?) (some (Value.int IntKind.i64 (cellI (ovr (nC (a1 i)) (0 + Int.toNat (↑i : Int) * 1)
  [Value.int IntKind.i64 (hLenI (↑i : Int))]) (802 + Int.toNat (cellI (ovr (nC (a1 i)) (0 + Int.toNat (↑i : Int) * 1) [Value.int IntKind.i64 (hLenI (↑i : Int))]) (0 +
  Int.toNat (↑i : Int) * 1)) * 1))))) /\ ((Value.int IntKind.i64 (cellI (ovr (nC (a1 i)) (0 + Int.toNat (↑i : Int) * 1) [Value.int IntKind.i64 (hLenI (↑i : Int))]) (802 +
  Int.toNat (cellI (ovr (nC (a1 i)) (0 + Int.toNat (↑i : Int) * 1) [Value.int IntKind.i64 (hLenI (↑i : Int))]) (0 + Int.toNat (↑i : Int) * 1)) * 1)) = Value.int IntKind.i64
  (cellI (ovr (nC (a1 i)) (0 + Int.toNat (↑i : Int) * 1) [Value.int IntKind.i64 (hLenI (↑i : Int))]) (802 + Int.toNat (cellI (ovr (nC (a1 i)) (0 + Int.toNat (↑i : Int) * 1)
  [Value.int IntKind.i64 (hLenI (↑i : Int))]) (0 + Int.toNat (↑i : Int) * 1)) * 1))) /\ (∃ j : Nat, ((Inv j) /\ ((m j < m i) /\ ((0 = 0) /\ (((↑j : Int) = IntKind.wrap
  IntKind.i64 ((↑i : Int) + (1 : Int))) /\ ((Eq (α := List Value) (nC (a1 j)) (ovr (ovr (nC (a1 i)) (0 + Int.toNat (↑i : Int) * 1) [Value.int IntKind.i64 (hLenI (↑i :
  Int))]) (802 + Int.toNat (cellI (ovr (nC (a1 i)) (0 + Int.toNat (↑i : Int) * 1) [Value.int IntKind.i64 (hLenI (↑i : Int))]) (0 + Int.toNat (↑i : Int) * 1)) * 1) [Value.int
  IntKind.i64 (IntKind.wrap IntKind.i64 (cellI (ovr (nC (a1 i)) (0 + Int.toNat (↑i : Int) * 1) [Value.int IntKind.i64 (hLenI (↑i : Int))]) (802 + Int.toNat (cellI (ovr (nC
  (a1 i)) (0 + Int.toNat (↑i : Int) * 1) [Value.int IntKind.i64 (hLenI (↑i : Int))]) (0 + Int.toNat (↑i : Int) * 1)) * 1) + (1 : Int)))])) /\ ((Plain (nC (a1 j))) /\
  True))))))))))) False) False)) False)) False) False) False)) (∃ y : Unit, ((True) /\ ((0 = 0) /\ ((Eq (α := List Value) (nC (a1 257)) (nC (a1 i))) /\ ((Plain (nC (a1
  257))) /\ True)))))) := by kernel_rfl
theorem O2_round (n : Nat) (Inv : Nat → Prop) (m : Nat → Nat) : mev EtO noM 60 331 (0 :: pO2) false (codeOf Tryz.prog 331 (0 :: pO2)) ⟨mkOv (slO2 n), 116, []⟩ none ⟨mkR [(0, bkR (a2 n))], 1⟩ (roundK 0 1 116 Inv m slO2 (fun n => [(0, bkR (a2 n))]) wsO2 n) =
  (br (decide ((↑(n + 1) : Int) <= (30 : Int))) (br (decide ((0 : Int) <= (↑(n + 1) : Int) /\ (↑(n + 1) : Int) < (31 : Int))) (br (decide (771 + Int.toNat (↑(n + 1) : Int) *
  1 + 1 <= List.length (nC (a2 n)))) (br (decide ((0 : Int) <= (↑(n + 1) : Int) /\ (↑(n + 1) : Int) < (31 : Int))) (br (decide (833 + Int.toNat (↑(n + 1) : Int) * 1 + 1 <=
  List.length (ovr (nC (a2 n)) (771 + Int.toNat (↑(n + 1) : Int) * 1) [Value.int IntKind.i64 (ishl IntKind.i64 (↑(cd n) : Int) (1 : Int))]))) (br (decide ((0 : Int) <= (↑(n
  + 1) : Int) /\ (↑(n + 1) : Int) < (31 : Int))) ((Eq (α := Option Value) ((ovr (ovr (nC (a2 n)) (771 + Int.toNat (↑(n + 1) : Int) * 1) [Value.int IntKind.i64 (ishl
  IntKind.i64 (↑(cd n) : Int) (1 : Int))]) (833 + Int.toNat (↑(n + 1) : Int) * 1) [Value.int IntKind.i64 (↑(at_ n) : Int)])[802 + Int.toNat (↑(n + 1) : Int) * 1]?) (some
  (Value.int IntKind.i64 (cellI (ovr (ovr (nC (a2 n)) (771 + Int.toNat (↑(n + 1) : Int) * 1) [Value.int IntKind.i64 (ishl IntKind.i64 (↑(cd n) : Int) (1 : Int))]) (833 +
  Int.toNat (↑(n + 1) : Int) * 1) [Value.int IntKind.i64 (↑(at_ n) : Int)]) (802 + Int.toNat (↑(n + 1) : Int) * 1))))) /\ (br (decide ((0 : Int) <= (↑(n + 1) : Int) /\ (↑(n
  + 1) : Int) < (31 : Int))) ((Eq (α := Option Value) ((ovr (ovr (nC (a2 n)) (771 + Int.toNat (↑(n + 1) : Int) * 1) [Value.int IntKind.i64 (ishl IntKind.i64 (↑(cd n) : Int)
  (1 : Int))]) (833 + Int.toNat (↑(n + 1) : Int) * 1) [Value.int IntKind.i64 (↑(at_ n) : Int)])[802 + Int.toNat (↑(n + 1) : Int) * 1]?) (some (Value.int IntKind.i64 (cellI
  (ovr (ovr (nC (a2 n)) (771 + Int.toNat (↑(n + 1) : Int) * 1) [Value.int IntKind.i64 (ishl IntKind.i64 (↑(cd n) : Int) (1 : Int))]) (833 + Int.toNat (↑(n + 1) : Int) * 1)
  [Value.int IntKind.i64 (↑(at_ n) : Int)]) (802 + Int.toNat (↑(n + 1) : Int) * 1))))) /\ (∃ j : Nat, ((Inv j) /\ ((m j < m n) /\ ((0 = 0) /\ (((↑(cd j) : Int) =
  IntKind.wrap IntKind.i64 (ishl IntKind.i64 (↑(cd n) : Int) (1 : Int) + cellI (ovr (ovr (nC (a2 n)) (771 + Int.toNat (↑(n + 1) : Int) * 1) [Value.int IntKind.i64 (ishl
  IntKind.i64 (↑(cd n) : Int) (1 : Int))]) (833 + Int.toNat (↑(n + 1) : Int) * 1) [Value.int IntKind.i64 (↑(at_ n) : Int)]) (802 + Int.toNat (↑(n + 1) : Int) * 1))) /\
  (((↑(at_ j) : Int) = IntKind.wrap IntKind.i64 ((↑(at_ n) : Int) + cellI (ovr (ovr (nC (a2 n)) (771 + Int.toNat (↑(n + 1) : Int) * 1) [Value.int IntKind.i64 (ishl
  IntKind.i64 (↑(cd n) : Int) (1 : Int))]) (833 + Int.toNat (↑(n + 1) : Int) * 1) [Value.int IntKind.i64 (↑(at_ n) : Int)]) (802 + Int.toNat (↑(n + 1) : Int) * 1))) /\
  (((↑(j + 1) : Int) = IntKind.wrap IntKind.i64 ((↑(n + 1) : Int) + (1 : Int))) /\ ((Eq (α := List Value) (nC (a2 j)) (ovr (ovr (nC (a2 n)) (771 + Int.toNat (↑(n + 1) : Int)
  * 1) [Value.int IntKind.i64 (ishl IntKind.i64 (↑(cd n) : Int) (1 : Int))]) (833 + Int.toNat (↑(n + 1) : Int) * 1) [Value.int IntKind.i64 (↑(at_ n) : Int)])) /\ ((Plain (nC
  (a2 j))) /\ True)))))))))) False)) False) False) False) False) False) (∃ y : Unit, ((True) /\ ((0 = 0) /\ ((Eq (α := List Value) (nC (a2 30)) (nC (a2 n))) /\ ((Plain (nC
  (a2 30))) /\ True)))))) := by kernel_rfl
theorem O3_round (i : Nat) (Inv : Nat → Prop) (m : Nat → Nat) : mev EtO noM 60 331 (0 :: pO3) false (codeOf Tryz.prog 331 (0 :: pO3)) ⟨mkOv (slO3 i), 116, []⟩ none ⟨mkR [(0, bkR (a3 i)), (1, bkR (u3 i))], 2⟩ (roundK 0 2 116 Inv m slO3 (fun i => [(0, bkR (a3 i)), (1, bkR (u3 i))]) wsO3 i) =
  (br (decide ((↑i : Int) < (257 : Int))) (br (decide ((0 : Int) <= (↑i : Int) /\ (↑i : Int) < (257 : Int))) ((Eq (α := Option Value) ((nC lenL)[Int.toNat (↑i : Int) * 1]?)
  (some (Value.int IntKind.i64 (cellI (nC lenL) (Int.toNat (↑i : Int) * 1))))) /\ (br (decide ((0 : Int) <= cellI (nC lenL) (Int.toNat (↑i : Int) * 1) /\ cellI (nC lenL)
  (Int.toNat (↑i : Int) * 1) < (31 : Int))) ((Eq (α := Option Value) ((nC (a3 i))[771 + Int.toNat (cellI (nC lenL) (Int.toNat (↑i : Int) * 1)) * 1]?) (some (Value.int
  IntKind.i64 (cellI (nC (a3 i)) (771 + Int.toNat (cellI (nC lenL) (Int.toNat (↑i : Int) * 1)) * 1))))) /\ (br (decide ((0 : Int) <= cellI (nC lenL) (Int.toNat (↑i : Int) *
  1) /\ cellI (nC lenL) (Int.toNat (↑i : Int) * 1) < (31 : Int))) ((Eq (α := Option Value) ((nC (u3 i))[0 + Int.toNat (cellI (nC lenL) (Int.toNat (↑i : Int) * 1)) * 1]?)
  (some (Value.int IntKind.i64 (cellI (nC (u3 i)) (0 + Int.toNat (cellI (nC lenL) (Int.toNat (↑i : Int) * 1)) * 1))))) /\ (br (decide ((0 : Int) <= (↑i : Int) /\ (↑i : Int)
  < (257 : Int))) (br (decide (257 + Int.toNat (↑i : Int) * 1 + 1 <= List.length (nC (a3 i)))) ((Eq (α := Option Value) ((nC (a3 i))[771 + Int.toNat (cellI (nC lenL)
  (Int.toNat (↑i : Int) * 1)) * 1]?) (some (Value.int IntKind.i64 (cellI (nC (a3 i)) (771 + Int.toNat (cellI (nC lenL) (Int.toNat (↑i : Int) * 1)) * 1))))) /\ ((Value.int
  IntKind.i64 (cellI (nC (a3 i)) (771 + Int.toNat (cellI (nC lenL) (Int.toNat (↑i : Int) * 1)) * 1)) = Value.int IntKind.i64 (cellI (nC (a3 i)) (771 + Int.toNat (cellI (nC
  lenL) (Int.toNat (↑i : Int) * 1)) * 1))) /\ ((Eq (α := Option Value) ((nC (u3 i))[0 + Int.toNat (cellI (nC lenL) (Int.toNat (↑i : Int) * 1)) * 1]?) (some (Value.int
  IntKind.i64 (cellI (nC (u3 i)) (0 + Int.toNat (cellI (nC lenL) (Int.toNat (↑i : Int) * 1)) * 1))))) /\ ((Value.int IntKind.i64 (cellI (nC (u3 i)) (0 + Int.toNat (cellI (nC
  lenL) (Int.toNat (↑i : Int) * 1)) * 1)) = Value.int IntKind.i64 (cellI (nC (u3 i)) (0 + Int.toNat (cellI (nC lenL) (Int.toNat (↑i : Int) * 1)) * 1))) /\ (br (decide ((0 :
  Int) <= cellI (nC lenL) (Int.toNat (↑i : Int) * 1) /\ cellI (nC lenL) (Int.toNat (↑i : Int) * 1) < (31 : Int))) ((Eq (α := Option Value) ((ovr (nC (a3 i)) (257 + Int.toNat
  (↑i : Int) * 1) [Value.int IntKind.i64 (IntKind.wrap IntKind.i64 (cellI (nC (a3 i)) (771 + Int.toNat (cellI (nC lenL) (Int.toNat (↑i : Int) * 1)) * 1) + cellI (nC (u3 i))
  (0 + Int.toNat (cellI (nC lenL) (Int.toNat (↑i : Int) * 1)) * 1)))])[833 + Int.toNat (cellI (nC lenL) (Int.toNat (↑i : Int) * 1)) * 1]?) (some (Value.int IntKind.i64
  (cellI (ovr (nC (a3 i)) (257 + Int.toNat (↑i : Int) * 1) [Value.int IntKind.i64 (IntKind.wrap IntKind.i64 (cellI (nC (a3 i)) (771 + Int.toNat (cellI (nC lenL) (Int.toNat
  (↑i : Int) * 1)) * 1) + cellI (nC (u3 i)) (0 + Int.toNat (cellI (nC lenL) (Int.toNat (↑i : Int) * 1)) * 1)))]) (833 + Int.toNat (cellI (nC lenL) (Int.toNat (↑i : Int) *
  1)) * 1))))) /\ (br (decide ((0 : Int) <= cellI (nC lenL) (Int.toNat (↑i : Int) * 1) /\ cellI (nC lenL) (Int.toNat (↑i : Int) * 1) < (31 : Int))) ((Eq (α := Option Value)
  ((nC (u3 i))[0 + Int.toNat (cellI (nC lenL) (Int.toNat (↑i : Int) * 1)) * 1]?) (some (Value.int IntKind.i64 (cellI (nC (u3 i)) (0 + Int.toNat (cellI (nC lenL) (Int.toNat
  (↑i : Int) * 1)) * 1))))) /\ (br (decide ((0 : Int) <= IntKind.wrap IntKind.i64 (cellI (ovr (nC (a3 i)) (257 + Int.toNat (↑i : Int) * 1) [Value.int IntKind.i64
  (IntKind.wrap IntKind.i64 (cellI (nC (a3 i)) (771 + Int.toNat (cellI (nC lenL) (Int.toNat (↑i : Int) * 1)) * 1) + cellI (nC (u3 i)) (0 + Int.toNat (cellI (nC lenL)
  (Int.toNat (↑i : Int) * 1)) * 1)))]) (833 + Int.toNat (cellI (nC lenL) (Int.toNat (↑i : Int) * 1)) * 1) + cellI (nC (u3 i)) (0 + Int.toNat (cellI (nC lenL) (Int.toNat (↑i
  : Int) * 1)) * 1)) /\ IntKind.wrap IntKind.i64 (cellI (ovr (nC (a3 i)) (257 + Int.toNat (↑i : Int) * 1) [Value.int IntKind.i64 (IntKind.wrap IntKind.i64 (cellI (nC (a3 i))
  (771 + Int.toNat (cellI (nC lenL) (Int.toNat (↑i : Int) * 1)) * 1) + cellI (nC (u3 i)) (0 + Int.toNat (cellI (nC lenL) (Int.toNat (↑i : Int) * 1)) * 1)))]) (833 +
  Int.toNat (cellI (nC lenL) (Int.toNat (↑i : Int) * 1)) * 1) + cellI (nC (u3 i)) (0 + Int.toNat (cellI (nC lenL) (Int.toNat (↑i : Int) * 1)) * 1)) < (257 : Int))) (br
  (decide (514 + Int.toNat (IntKind.wrap IntKind.i64 (cellI (ovr (nC (a3 i)) (257 + Int.toNat (↑i : Int) * 1) [Value.int IntKind.i64 (IntKind.wrap IntKind.i64 (cellI (nC (a3
  i)) (771 + Int.toNat (cellI (nC lenL) (Int.toNat (↑i : Int) * 1)) * 1) + cellI (nC (u3 i)) (0 + Int.toNat (cellI (nC lenL) (Int.toNat (↑i : Int) * 1)) * 1)))]) (833 +
  Int.toNat (cellI (nC lenL) (Int.toNat (↑i : Int) * 1)) * 1) + cellI (nC (u3 i)) (0 + Int.toNat (cellI (nC lenL) (Int.toNat (↑i : Int) * 1)) * 1))) * 1 + 1 <= List.length
  (ovr (nC (a3 i)) (257 + Int.toNat (↑i : Int) * 1) [Value.int IntKind.i64 (IntKind.wrap IntKind.i64 (cellI (nC (a3 i)) (771 + Int.toNat (cellI (nC lenL) (Int.toNat (↑i :
  Int) * 1)) * 1) + cellI (nC (u3 i)) (0 + Int.toNat (cellI (nC lenL) (Int.toNat (↑i : Int) * 1)) * 1)))]))) ((Eq (α := Option Value) ((ovr (nC (a3 i)) (257 + Int.toNat (↑i
  : Int) * 1) [Value.int IntKind.i64 (IntKind.wrap IntKind.i64 (cellI (nC (a3 i)) (771 + Int.toNat (cellI (nC lenL) (Int.toNat (↑i : Int) * 1)) * 1) + cellI (nC (u3 i)) (0 +
  Int.toNat (cellI (nC lenL) (Int.toNat (↑i : Int) * 1)) * 1)))])[833 + Int.toNat (cellI (nC lenL) (Int.toNat (↑i : Int) * 1)) * 1]?) (some (Value.int IntKind.i64 (cellI
  (ovr (nC (a3 i)) (257 + Int.toNat (↑i : Int) * 1) [Value.int IntKind.i64 (IntKind.wrap IntKind.i64 (cellI (nC (a3 i)) (771 + Int.toNat (cellI (nC lenL) (Int.toNat (↑i :
  Int) * 1)) * 1) + cellI (nC (u3 i)) (0 + Int.toNat (cellI (nC lenL) (Int.toNat (↑i : Int) * 1)) * 1)))]) (833 + Int.toNat (cellI (nC lenL) (Int.toNat (↑i : Int) * 1)) *
  1))))) /\ ((Value.int IntKind.i64 (cellI (ovr (nC (a3 i)) (257 + Int.toNat (↑i : Int) * 1) [Value.int IntKind.i64 (IntKind.wrap IntKind.i64 (cellI (nC (a3 i)) (771 +
  Int.toNat (cellI (nC lenL) (Int.toNat (↑i : Int) * 1)) * 1) + cellI (nC (u3 i)) (0 + Int.toNat (cellI (nC lenL) (Int.toNat (↑i : Int) * 1)) * 1)))]) (833 + Int.toNat
  (cellI (nC lenL) (Int.toNat (↑i : Int) * 1)) * 1)) = Value.int IntKind.i64 (cellI (ovr (nC (a3 i)) (257 + Int.toNat (↑i : Int) * 1) [Value.int IntKind.i64 (IntKind.wrap
  IntKind.i64 (cellI (nC (a3 i)) (771 + Int.toNat (cellI (nC lenL) (Int.toNat (↑i : Int) * 1)) * 1) + cellI (nC (u3 i)) (0 + Int.toNat (cellI (nC lenL) (Int.toNat (↑i : Int)
  * 1)) * 1)))]) (833 + Int.toNat (cellI (nC lenL) (Int.toNat (↑i : Int) * 1)) * 1))) /\ ((Eq (α := Option Value) ((nC (u3 i))[0 + Int.toNat (cellI (nC lenL) (Int.toNat (↑i
  : Int) * 1)) * 1]?) (some (Value.int IntKind.i64 (cellI (nC (u3 i)) (0 + Int.toNat (cellI (nC lenL) (Int.toNat (↑i : Int) * 1)) * 1))))) /\ ((Value.int IntKind.i64 (cellI
  (nC (u3 i)) (0 + Int.toNat (cellI (nC lenL) (Int.toNat (↑i : Int) * 1)) * 1)) = Value.int IntKind.i64 (cellI (nC (u3 i)) (0 + Int.toNat (cellI (nC lenL) (Int.toNat (↑i :
  Int) * 1)) * 1))) /\ (br (decide ((0 : Int) <= cellI (nC lenL) (Int.toNat (↑i : Int) * 1) /\ cellI (nC lenL) (Int.toNat (↑i : Int) * 1) < (31 : Int))) ((Eq (α := Option
  Value) ((nC (u3 i))[0 + Int.toNat (cellI (nC lenL) (Int.toNat (↑i : Int) * 1)) * 1]?) (some (Value.int IntKind.i64 (cellI (nC (u3 i)) (0 + Int.toNat (cellI (nC lenL)
  (Int.toNat (↑i : Int) * 1)) * 1))))) /\ (br (decide ((0 : Int) <= cellI (nC lenL) (Int.toNat (↑i : Int) * 1) /\ cellI (nC lenL) (Int.toNat (↑i : Int) * 1) < (31 : Int)))
  (br (decide (0 + Int.toNat (cellI (nC lenL) (Int.toNat (↑i : Int) * 1)) * 1 + 1 <= List.length (nC (u3 i)))) (∃ j : Nat, ((Inv j) /\ ((m j < m i) /\ ((0 = 0) /\ ((0 = 0)
  /\ ((Eq (α := List Value) ((nC lenL)) ((nC lenL))) /\ ((Plain (nC lenL)) /\ (((↑j : Int) = IntKind.wrap IntKind.i64 ((↑i : Int) + (1 : Int))) /\ ((Eq (α := List Value) (nC
  (a3 j)) (ovr (ovr (nC (a3 i)) (257 + Int.toNat (↑i : Int) * 1) [Value.int IntKind.i64 (IntKind.wrap IntKind.i64 (cellI (nC (a3 i)) (771 + Int.toNat (cellI (nC lenL)
  (Int.toNat (↑i : Int) * 1)) * 1) + cellI (nC (u3 i)) (0 + Int.toNat (cellI (nC lenL) (Int.toNat (↑i : Int) * 1)) * 1)))]) (514 + Int.toNat (IntKind.wrap IntKind.i64 (cellI
  (ovr (nC (a3 i)) (257 + Int.toNat (↑i : Int) * 1) [Value.int IntKind.i64 (IntKind.wrap IntKind.i64 (cellI (nC (a3 i)) (771 + Int.toNat (cellI (nC lenL) (Int.toNat (↑i :
  Int) * 1)) * 1) + cellI (nC (u3 i)) (0 + Int.toNat (cellI (nC lenL) (Int.toNat (↑i : Int) * 1)) * 1)))]) (833 + Int.toNat (cellI (nC lenL) (Int.toNat (↑i : Int) * 1)) * 1)
  + cellI (nC (u3 i)) (0 + Int.toNat (cellI (nC lenL) (Int.toNat (↑i : Int) * 1)) * 1))) * 1) [Value.int IntKind.i64 (↑i : Int)])) /\ ((Plain (nC (a3 j))) /\ ((Eq (α := List
  Value) (nC (u3 j)) (ovr (nC (u3 i)) (0 + Int.toNat (cellI (nC lenL) (Int.toNat (↑i : Int) * 1)) * 1) [Value.int IntKind.i64 (IntKind.wrap IntKind.i64 (cellI (nC (u3 i)) (0
  + Int.toNat (cellI (nC lenL) (Int.toNat (↑i : Int) * 1)) * 1) + (1 : Int)))])) /\ ((Plain (nC (u3 j))) /\ True)))))))))))) False) False)) False))))) False) False)) False))
  False))))) False) False)) False)) False)) False) (∃ y : Unit, ((True) /\ ((0 = 0) /\ ((Eq (α := List Value) (nC (a3 257)) (nC (a3 i))) /\ ((Plain (nC (a3 257))) /\
  True)))))) := by kernel_rfl
theorem O_vc  : mcall EtO mO 60 331 [] ⟨mkR (nums 0 []), 0⟩ (retIs 0 (.pointer (some ⟨0, 0, none⟩)) [bkR (a3 257)]) =
  (∃ g : Unit, ((True) /\ ((0 = 0) /\ (((0 : Int) = (0 : Int)) /\ ((Eq (α := List Value) (nC (a1 0)) (List.replicate 864 (Value.int IntKind.i64 0))) /\ ((Plain (nC (a1 0)))
  /\ (∀ (y : Unit), ((True) → (∃ g2 : Unit, ((True) /\ ((0 = 0) /\ ((Int.ofNat (cd 0) = (0 : Int)) /\ ((Int.ofNat (at_ 0) = (0 : Int)) /\ (((1 : Int) = (1 : Int)) /\ ((Eq (α
  := List Value) (nC (a2 0)) (nC (a1 257))) /\ ((Plain (nC (a2 0))) /\ (∀ (y2 : Unit), ((True) → (br (decide (0 + 257 <= List.length (nC (a2 30)))) (∃ g3 : Unit, ((True) /\
  ((0 = 0) /\ ((0 = 0) /\ ((Eq (α := List Value) ((nC lenL)) (List.take (257) (List.drop (0) (nC (a2 30))))) /\ ((Plain (nC lenL)) /\ (((0 : Int) = (0 : Int)) /\ ((Eq (α :=
  List Value) (nC (a3 0)) (nC (a2 30))) /\ ((Plain (nC (a3 0))) /\ ((Eq (α := List Value) (nC (u3 0)) ([Value.int IntKind.i64 (0 : Int), Value.int IntKind.i64 (0 : Int),
  Value.int IntKind.i64 (0 : Int), Value.int IntKind.i64 (0 : Int), Value.int IntKind.i64 (0 : Int), Value.int IntKind.i64 (0 : Int), Value.int IntKind.i64 (0 : Int),
  Value.int IntKind.i64 (0 : Int), Value.int IntKind.i64 (0 : Int), Value.int IntKind.i64 (0 : Int), Value.int IntKind.i64 (0 : Int), Value.int IntKind.i64 (0 : Int),
  Value.int IntKind.i64 (0 : Int), Value.int IntKind.i64 (0 : Int), Value.int IntKind.i64 (0 : Int), Value.int IntKind.i64 (0 : Int), Value.int IntKind.i64 (0 : Int),
  Value.int IntKind.i64 (0 : Int), Value.int IntKind.i64 (0 : Int), Value.int IntKind.i64 (0 : Int), Value.int IntKind.i64 (0 : Int), Value.int IntKind.i64 (0 : Int),
  Value.int IntKind.i64 (0 : Int), Value.int IntKind.i64 (0 : Int), Value.int IntKind.i64 (0 : Int), Value.int IntKind.i64 (0 : Int), Value.int IntKind.i64 (0 : Int),
  Value.int IntKind.i64 (0 : Int), Value.int IntKind.i64 (0 : Int), Value.int IntKind.i64 (0 : Int), Value.int IntKind.i64 (0 : Int)])) /\ ((Plain (nC (u3 0))) /\ (∀ (y3 :
  Unit), ((True) → ((0 = 0) /\ ((Eq (α := List Value) (nC (a3 257)) (nC (a3 257))) /\ ((Plain (nC (a3 257))) /\ True)))))))))))))))) False))))))))))))))))))) := by kernel_rfl
theorem eLen_ok : EntOk Tryz.prog eLen := entC_ok (by
  intro a rows p v news h hp
  split at h <;> simp only [Option.some.injEq, Prod.mk.injEq, reduceCtorEq] at h
  obtain ⟨rfl, rfl, rfl⟩ := h
  exact len_con _)
theorem tO_ok : ∀ x ∈ tO, EntOk Tryz.prog x := all_cons eLen_ok (all_nil)
theorem z_a1 : a1 = fun i => tbl 864 (f1 i) := Classical.choose_spec (f1_ex _)
theorem z_a2 : a2 = fun i => tbl 864 (f2 i) := Classical.choose_spec (f1_ex _)
theorem z_a3 : a3 = fun i => tbl 864 (f3 i) := Classical.choose_spec (f1_ex _)
theorem z_u3 : u3 = fun i => tbl 31 (fun z => used z i) := Classical.choose_spec (f1_ex _)
theorem z_c2 : c2 = fun n => [cdN n, atN n] := Classical.choose_spec (f1_ex _)
theorem z_cd (n : Nat) : cd n = cdN n := by unfold cd; rw [z_c2]; rfl
theorem z_at (n : Nat) : at_ n = atN n := by unfold at_; rw [z_c2]; rfl
theorem tb_len (m : Nat) (f : Nat → Nat) : (nC (tbl m f)).length = m := by simp [nC, tbl]
theorem nC_len (l : List Nat) : (nC l).length = l.length := by simp [nC]
theorem nC_plain (l : List Nat) : Plain (nC l) := by intro v hv; obtain ⟨b, _, rfl⟩ := List.mem_map.1 hv; rfl
theorem nC_get {l : List Nat} {i : Nat} (h : i < l.length) : (nC l)[i]? = some (.int .i64 ((l.getD i 0 : Nat) : Int)) := by
  simp [nC, List.getD, List.getElem?_eq_getElem h]
theorem nC_cell {l : List Nat} {i : Nat} (h : i < l.length) : cellI (nC l) i = ((l.getD i 0 : Nat) : Int) := by unfold cellI; rw [nC_get h]
theorem tb_getD (m : Nat) (f : Nat → Nat) (i : Nat) (h : i < m) : (tbl m f).getD i 0 = f i := by simp [tbl, List.getD, h]
theorem tb_get (m : Nat) (f : Nat → Nat) (i : Nat) (h : i < m) : (nC (tbl m f))[i]? = some (.int .i64 ((f i : Nat) : Int)) := by
  rw [nC_get (by simpa [tbl] using h), tb_getD m f i h]
theorem tb_cell (m : Nat) (f : Nat → Nat) (i : Nat) (h : i < m) : cellI (nC (tbl m f)) i = ((f i : Nat) : Int) := by unfold cellI; rw [tb_get m f i h]
theorem tb_ovr (m : Nat) (f : Nat → Nat) (i v : Nat) (h : i < m) : ovr (nC (tbl m f)) i [Value.int .i64 ((v : Nat) : Int)] = nC (tbl m (upd f i v)) := by
  apply List.ext_getElem?
  intro k
  rw [ovr_get _ _ _ (by rw [tb_len]; simp; omega)]
  by_cases hk : k < m
  · rw [tb_get m _ k hk]
    rw [tb_get m _ k hk]
    unfold upd
    split
    · rename_i h1
      have : k = i := by simp at h1; omega
      subst this; simp
    · rename_i h1
      have : k ≠ i := by intro e; apply h1; subst e; simp
      rw [if_neg this]
  · have : ¬ (i ≤ k ∧ k < i + [Value.int IntKind.i64 ((v : Nat) : Int)].length) := by simp; omega
    rw [if_neg this, List.getElem?_eq_none (by rw [tb_len]; omega), List.getElem?_eq_none (by rw [tb_len]; omega)]
theorem tb_eq {m : Nat} {f g : Nat → Nat} (h : ∀ k, k < m → f k = g k) : nC (tbl m f) = nC (tbl m g) := by
  unfold tbl
  congr 1
  exact List.map_congr_left fun k hk => h k (List.mem_range.1 hk)
theorem upd_eq (f : Nat → Nat) (i v : Nat) : upd f i v i = v := by unfold upd; simp
theorem upd_ne (f : Nat → Nat) (i v k : Nat) (h : k ≠ i) : upd f i v k = f k := by unfold upd; rw [if_neg h]
theorem len_in : ∀ s : Fin 257, 5 ≤ hLen s.1 ∧ hLen s.1 ≤ 30 := by decide +kernel
theorem len_bd (s : Nat) (h : s < 257) : 5 ≤ hLen s ∧ hLen s ≤ 30 := len_in ⟨s, h⟩
theorem hLenI_nat (s : Nat) (h : s < 257) : hLenI (s : Nat) = ((hLen s : Nat) : Int) := by unfold hLenI; rw [if_pos (by omega)]; simp
theorem used_le (z : Nat) : ∀ i, used z i ≤ i
  | 0 => Nat.le_refl _
  | i + 1 => by have := used_le z i; rw [used]; split <;> omega
def chk : List Nat → Nat → List Nat → Bool
  | [], _, _ => true
  | z :: l, s, c => Nat.beq (posN s) (stN z + c.getD z 0) && chk l (s + 1) (c.set z (c.getD z 0 + 1))
theorem chk_spec : ∀ (l : List Nat) (s : Nat) (c : List Nat), l = lenL.drop s → s + l.length = 257 → c.length = 31 → (∀ z, z < 31 → c.getD z 0 = used z s) → chk l s c = true → ∀ t, s ≤ t → t < 257 → posN t = stN (hLen t) + used (hLen t) t
  | [], s, c, _, h1, _, _, _, t, h2, h3 => by simp at h1; omega
  | z :: l, s, c, h, h1, hc, hu, hk, t, h2, h3 => by
    simp only [List.length_cons] at h1
    have hs : s < lenL.length := show s < 257 by omega
    rw [List.drop_eq_getElem_cons hs] at h
    obtain ⟨rfl, rfl⟩ := List.cons.inj h
    have hz : lenL[s] = hLen s := by unfold hLen; simp [List.getD, List.getElem?_eq_getElem hs]
    rw [chk, Bool.and_eq_true] at hk
    obtain ⟨k1, k2⟩ := hk
    have k1 := Nat.eq_of_beq_eq_true k1
    have hb := len_bd s (by omega)
    rcases Nat.lt_or_ge s t with hlt | hge
    · refine chk_spec _ (s + 1) _ rfl (by omega) (by simp [hc]) ?_ k2 t (by omega) h3
      intro y hy
      rw [used, hz]
      by_cases e : hLen s = y
      · subst e; rw [List.getD_eq_getElem?_getD, List.getElem?_set_self (by omega), hu _ hy]; simp
      · rw [List.getD_eq_getElem?_getD, List.getElem?_set_ne e, ← List.getD_eq_getElem?_getD, hu _ hy, if_neg e]; rfl
    · have : t = s := by omega
      subst this
      rw [k1, hz, hu _ (by omega)]
theorem chk_ok : chk lenL 0 (List.replicate 31 0) = true := by decide +kernel
theorem pos_eq (s : Nat) (h : s < 257) : posN s = stN (hLen s) + used (hLen s) s := by
  refine chk_spec lenL 0 _ rfl rfl (by simp) ?_ chk_ok s (Nat.zero_le _) h
  intro z hz; rw [used, List.getD_eq_getElem?_getD, List.getElem?_replicate]; simp [hz]
theorem pos_all : ∀ s : Fin 257, posN s.1 < 257 ∧ ordN (posN s.1) = s.1 ∧ ordN s.1 < 257 ∧ posN (ordN s.1) = s.1 := by decide +kernel
theorem pos_in (s : Nat) (h : s < 257) : posN s < 257 ∧ ordN (posN s) = s ∧ ordN s < 257 ∧ posN (ordN s) = s := pos_all ⟨s, h⟩
theorem fst_all : ∀ n : Fin 30, fstN (n.1 + 1) = cdN n.1 * 2 ∧ stN (n.1 + 1) = atN n.1 ∧ cdN n.1 * 2 + cntN (n.1 + 1) < 4294967296 ∧ atN n.1 + cntN (n.1 + 1) < 1000 := by decide +kernel
theorem fst_in (n : Nat) (h : n < 30) : fstN (n + 1) = cdN n * 2 ∧ stN (n + 1) = atN n ∧ cdN n * 2 + cntN (n + 1) < 4294967296 ∧ atN n + cntN (n + 1) < 1000 := fst_all ⟨n, h⟩
theorem cnt_all : ∀ z : Fin 31, used z.1 257 = cntN z.1 := by decide +kernel
theorem cnt_eq (z : Nat) (h : z < 31) : used z 257 = cntN z := cnt_all ⟨z, h⟩
theorem fst_lt : ∀ z : Fin 31, fstN z.1 < 4294967296 := by decide +kernel
theorem w_add (m n : Nat) (h : m + n < 9000000000000000000) : IntKind.i64.wrap ((m : Int) + (n : Int)) = ((m + n : Nat) : Int) := by rw [wr64_id (by unfold I64; omega)]; omega
theorem w_one (m : Nat) (h : m < 8000000000000000000) : IntKind.i64.wrap ((m : Int) + 1) = ((m + 1 : Nat) : Int) := by rw [wr64_id (by unfold I64; omega)]; omega
theorem ishl1 (a : Nat) (h : a < 4294967296) : ishl .i64 (a : Int) 1 = ((a * 2 : Nat) : Int) := ishl_nat (k := 1) (by omega) (by omega)
theorem O1_piece : PieceOk EtO 0 (331, pO1, specO1) := by
  refine piece_loop mixed (calls_envT tO_ok) (lok_envT _ _) lm_none (n := 60) (by kernel_rfl) (fun _ : Unit => (0 : Nat)) (fun _ i => i ≤ 257) (fun _ i => 257 - i) (sl := fun _ => slO1) (rl := fun _ i => [(0, bkR (a1 i))]) (fun g hg => Nat.zero_le _) (fun g i hg hi => ?_)
  refine (O1_round i _ _).mpr ?_
  simp only [z_a1, z_a2, z_a3, z_u3]
  refine br_if (fun h => ?_) (fun h => ?_)
  · have hi : i < 257 := by omega
    have hz := len_bd i hi
    simp (disch := omega) only [ofNat_eq, toNat_cast, Nat.zero_add, Nat.add_zero, Nat.mul_one, List.drop_zero, bCells_len, bCells_drop, bCells_take, bCells_app, bCells_one, bCells_plain, List.length_replicate, List.length_append, List.length_take, List.length_drop, List.take_length, and_true, true_and, and_self, decide_true, List.length_nil, List.length_cons, Nat.sub_zero, dB_mk, dB_ro, List.take_zero, Nat.zero_add, hLenI_nat i hi, tb_ovr, tb_get, tb_cell, tb_len, upd_eq, upd_ne]
    have e2 : f1 i (802 + hLen i) = used (hLen i) i := by unfold f1; rw [if_neg (by omega), if_pos (by omega), Nat.add_sub_cancel_left]
    have hu := used_le (hLen i) i
    simp (disch := omega) only [e2, w_one, tb_ovr]
    refine br_dec (by omega) (br_dec (by omega) (br_dec (by omega) (br_dec (by omega) (br_dec (by omega) (br_dec (by omega) ⟨i + 1, by omega, by omega, rfl, tb_eq (fun k hk => ?_), nC_plain _⟩)))))
    unfold upd f1
    by_cases h1 : k = 802 + hLen i
    · subst h1
      rw [if_pos rfl, if_neg (by omega), if_pos (by omega), Nat.add_sub_cancel_left, used, if_pos rfl]
    · rw [if_neg h1]
      by_cases h2 : k = i
      · subst h2; rw [if_pos rfl, if_pos hi, if_pos (by omega)]
      · rw [if_neg h2]
        by_cases h3 : k < 257
        · rw [if_pos h3, if_pos h3]
          by_cases h4 : k < i
          · rw [if_pos h4, if_pos (by omega)]
          · rw [if_neg h4, if_neg (by omega)]
        · rw [if_neg h3, if_neg h3]
          by_cases h4 : 802 ≤ k ∧ k < 833
          · rw [if_pos h4, if_pos h4, used, if_neg (by omega)]; rfl
          · rw [if_neg h4, if_neg h4]
  · have : i = 257 := by omega
    subst this
    refine ⟨(), ?_⟩
    repeat' apply And.intro
    all_goals first | trivial | rfl | exact nC_plain _
theorem O2_piece : PieceOk EtO 0 (331, pO2, specO2) := by
  refine piece_loop mixed (calls_envT tO_ok) (lok_envT _ _) lm_none (n := 60) (by kernel_rfl) (fun _ : Unit => (0 : Nat)) (fun _ i => i ≤ 30) (fun _ i => 30 - i) (sl := fun _ => slO2) (rl := fun _ i => [(0, bkR (a2 i))]) (fun g hg => Nat.zero_le _) (fun g i hg hi => ?_)
  refine (O2_round i _ _).mpr ?_
  simp only [z_a1, z_a2, z_a3, z_u3, z_cd, z_at]
  refine br_if (fun h => ?_) (fun h => ?_)
  · have hi : i < 30 := by omega
    simp (disch := omega) only [ofNat_eq, toNat_cast, Nat.zero_add, Nat.add_zero, Nat.mul_one, List.drop_zero, bCells_len, bCells_drop, bCells_take, bCells_app, bCells_one, bCells_plain, List.length_replicate, List.length_append, List.length_take, List.length_drop, List.take_length, and_true, true_and, and_self, decide_true, List.length_nil, List.length_cons, Nat.sub_zero, dB_mk, dB_ro, List.take_zero, Nat.zero_add, tb_ovr, tb_get, tb_cell, tb_len, upd_eq, upd_ne]
    obtain ⟨q1, q2, q3, q4⟩ := fst_in i hi
    have e2 : f2 i (802 + (i + 1)) = cntN (i + 1) := by
      unfold f2
      rw [if_neg (by omega), if_neg (by omega)]
      unfold f1
      rw [if_neg (by omega), if_pos (by omega), Nat.add_sub_cancel_left, cnt_eq _ (by omega)]
    have c1 : cdN (i + 1) = cdN i * 2 + cntN (i + 1) := by unfold cdN; rw [if_neg (by omega), q1]; rfl
    have c2 : atN (i + 1) = atN i + cntN (i + 1) := by unfold atN; rw [if_neg (by omega), q2]; rfl
    simp (disch := omega) only [ishl1, tb_ovr, tb_len, tb_get, tb_cell, upd_ne, e2, w_add, w_one]
    refine br_dec (by omega) (br_dec (by omega) (br_dec (by omega) (br_dec (by omega) (br_dec (by omega) ?_))))
    simp only [true_and]
    refine br_dec (by omega) ⟨i + 1, by omega, by omega, by rw [c1], by rw [c2], rfl, tb_eq (fun k hk => ?_), nC_plain _⟩
    unfold upd f2
    by_cases h1 : k = 833 + (i + 1)
    · subst h1; rw [if_pos rfl, if_neg (by omega), if_pos (by omega), Nat.add_sub_cancel_left, if_pos (by omega), q2]
    · rw [if_neg h1]
      by_cases h2 : k = 771 + (i + 1)
      · subst h2; rw [if_pos rfl, if_pos (by omega), Nat.add_sub_cancel_left, if_pos (by omega), q1]
      · rw [if_neg h2]
        by_cases h3 : 771 ≤ k ∧ k < 802
        · rw [if_pos h3, if_pos h3]
          by_cases h4 : k - 771 ≤ i
          · rw [if_pos h4, if_pos (by omega)]
          · rw [if_neg h4, if_neg (by omega)]
        · rw [if_neg h3, if_neg h3]
          by_cases h4 : 833 ≤ k
          · rw [if_pos h4, if_pos h4]
            by_cases h5 : k - 833 ≤ i
            · rw [if_pos h5, if_pos (by omega)]
            · rw [if_neg h5, if_neg (by omega)]
          · rw [if_neg h4, if_neg h4]
  · have : i = 30 := by omega
    subst this
    refine ⟨(), ?_⟩
    repeat' apply And.intro
    all_goals first | trivial | rfl | exact nC_plain _
theorem O3_piece : PieceOk EtO 0 (331, pO3, specO3) := by
  refine piece_loop mixed (calls_envT tO_ok) (lok_envT _ _) lm_none (n := 60) (by kernel_rfl) (fun _ : Unit => (0 : Nat)) (fun _ i => i ≤ 257) (fun _ i => 257 - i) (sl := fun _ => slO3) (rl := fun _ i => [(0, bkR (a3 i)), (1, bkR (u3 i))]) (fun g hg => Nat.zero_le _) (fun g i hg hi => ?_)
  refine (O3_round i _ _).mpr ?_
  simp only [z_a1, z_a2, z_a3, z_u3]
  refine br_if (fun h => ?_) (fun h => ?_)
  · have hi : i < 257 := by omega
    have hz := len_bd i hi
    have hl : i < lenL.length := hi
    have e0 : cellI (nC lenL) i = ((hLen i : Nat) : Int) := nC_cell hl
    have e1 : (nC lenL)[i]? = some (.int .i64 ((hLen i : Nat) : Int)) := nC_get hl
    simp (disch := omega) only [ofNat_eq, toNat_cast, Nat.zero_add, Nat.add_zero, Nat.mul_one, List.drop_zero, bCells_len, bCells_drop, bCells_take, bCells_app, bCells_one, bCells_plain, List.length_replicate, List.length_append, List.length_take, List.length_drop, List.take_length, and_true, true_and, and_self, decide_true, List.length_nil, List.length_cons, Nat.sub_zero, dB_mk, dB_ro, List.take_zero, Nat.zero_add, e0, e1, tb_ovr, tb_get, tb_cell, tb_len, upd_eq, upd_ne]
    have hp := pos_eq i hi
    obtain ⟨p1, p2, _, _⟩ := pos_in i hi
    have hf := fst_lt ⟨hLen i, by omega⟩
    simp only at hf
    have hu := used_le (hLen i) i
    have e2 : f3 i (771 + hLen i) = fstN (hLen i) := by
      unfold f3; rw [if_neg (by omega), if_neg (by omega)]
      unfold f2; rw [if_pos (by omega), Nat.add_sub_cancel_left, if_pos (by omega)]
    have e3 : f3 i (833 + hLen i) = stN (hLen i) := by
      unfold f3; rw [if_neg (by omega), if_neg (by omega)]
      unfold f2; rw [if_neg (by omega), if_pos (by omega), Nat.add_sub_cancel_left, if_pos (by omega)]
    have e4 : fstN (hLen i) + used (hLen i) i = codeN i := rfl
    have e5 : stN (hLen i) + used (hLen i) i = posN i := hp.symm
    simp (disch := omega) only [e2, e3, w_add, w_one, tb_ovr, tb_len, tb_get, tb_cell, upd_ne, upd_eq, e4, e5, Int.toNat_natCast, Nat.mul_one, true_and]
    refine br_dec (by omega) (br_dec (by omega) (br_dec (by omega) (br_dec (by omega) (br_dec (by omega) (br_dec (by omega) (br_dec (by omega) (br_dec (by omega) (br_dec (by omega) (br_dec (by omega) (br_dec (by omega) (br_dec (by omega) ⟨i + 1, by omega, by omega, nC_plain _, rfl, tb_eq (fun k hk => ?_), nC_plain _, tb_eq (fun z hz => ?_), nC_plain _⟩)))))))))))
    · unfold upd f3
      by_cases h1 : k = 514 + posN i
      · subst h1
        rw [if_pos rfl, if_neg (by omega), if_pos (by omega), Nat.add_sub_cancel_left, p2, if_pos (by omega)]
      · rw [if_neg h1]
        by_cases h2 : k = 257 + i
        · subst h2; rw [if_pos rfl, if_pos (by omega), Nat.add_sub_cancel_left, if_pos (by omega)]
        · rw [if_neg h2]
          by_cases h3 : 257 ≤ k ∧ k < 514
          · rw [if_pos h3, if_pos h3]
            by_cases h4 : k - 257 < i
            · rw [if_pos h4, if_pos (by omega)]
            · rw [if_neg h4, if_neg (by omega)]
          · rw [if_neg h3, if_neg h3]
            by_cases h4 : 514 ≤ k ∧ k < 771
            · rw [if_pos h4, if_pos h4]
              obtain ⟨_, _, r1, r2⟩ := pos_in (k - 514) (by omega)
              have hne : ordN (k - 514) ≠ i := by intro e; rw [e] at r2; omega
              by_cases h5 : ordN (k - 514) < i
              · rw [if_pos h5, if_pos (by omega)]
              · rw [if_neg h5, if_neg (by omega)]
            · rw [if_neg h4, if_neg h4]
    · unfold upd
      by_cases h1 : z = hLen i
      · subst h1; rw [if_pos rfl, used, if_pos rfl]
      · rw [if_neg h1, used, if_neg (by omega)]; rfl
  · have : i = 257 := by omega
    subst this
    refine ⟨(), ?_⟩
    repeat' apply And.intro
    all_goals first | trivial | rfl | exact nC_plain _
theorem open_con : Con Tryz.prog 331 [] [] (.pointer (some ⟨0, 0, none⟩)) [bkR (tbl 864 (f3 257))] := by
  have e : tbl 864 (f3 257) = a3 257 := by rw [z_a3]
  rw [e]
  refine con_vc (E := EtO) mixed (calls_envT tO_ok) (lok_envT _ _) (M := mO) (lm_three O1_piece O2_piece O3_piece) O_vc ?_
  simp only [z_a1, z_a2, z_a3, z_u3, z_cd, z_at]
  simp (disch := omega) only [ofNat_eq, toNat_cast, Nat.zero_add, Nat.add_zero, Nat.mul_one, List.drop_zero, bCells_len, bCells_drop, bCells_take, bCells_app, bCells_one, bCells_plain, List.length_replicate, List.length_append, List.length_take, List.length_drop, List.take_length, and_true, true_and, and_self, decide_true, List.length_nil, List.length_cons, Nat.sub_zero, dB_mk, dB_ro, List.take_zero, Nat.zero_add, tb_ovr, tb_get, tb_cell, tb_len, upd_eq, upd_ne]
  have z1 : nC (tbl 864 (f1 0)) = List.replicate 864 (Value.int .i64 0) := by
    have : ∀ k, k < 864 → f1 0 k = 0 := fun k _ => by unfold f1; split <;> (try split) <;> first | omega | rfl
    rw [tb_eq this]
    unfold nC tbl
    apply List.ext_getElem?
    intro k
    by_cases hk : k < 864
    · rw [List.getElem?_replicate, if_pos hk, List.map_map, List.getElem?_map, List.getElem?_range hk]; rfl
    · rw [List.getElem?_eq_none (by simp; omega), List.getElem?_eq_none (by rw [List.length_replicate]; omega)]
  have z2 : nC (tbl 864 (f2 0)) = nC (tbl 864 (f1 257)) := tb_eq fun k hk => by
    unfold f2
    by_cases h3 : 771 ≤ k ∧ k < 802
    · have e7 : (if k - 771 ≤ 0 then fstN (k - 771) else 0) = 0 := by
        split
        · rw [show k - 771 = 0 by omega]; rfl
        · rfl
      rw [if_pos h3, e7]
      unfold f1; rw [if_neg (by omega), if_neg (by omega)]
    · rw [if_neg h3]
      by_cases h4 : 833 ≤ k
      · have e7 : (if k - 833 ≤ 0 then stN (k - 833) else 0) = 0 := by
          split
          · rw [show k - 833 = 0 by omega]; rfl
          · rfl
        rw [if_pos h4, e7]
        unfold f1; rw [if_neg (by omega), if_neg (by omega)]
      · rw [if_neg h4]
  have z3 : nC lenL = List.take 257 (nC (tbl 864 (f2 30))) := by
    apply List.ext_getElem?
    intro k
    rw [List.getElem?_take]
    by_cases hk : k < 257
    · rw [if_pos hk, nC_get (show k < lenL.length from hk), tb_get _ _ _ (by omega)]
      unfold f2 f1
      rw [if_neg (by omega), if_neg (by omega), if_pos hk, if_pos hk]; rfl
    · rw [if_neg hk, List.getElem?_eq_none (by rw [nC_len]; show 257 ≤ k; omega)]
  have z4 : nC (tbl 864 (f3 0)) = nC (tbl 864 (f2 30)) := tb_eq fun k hk => by
    unfold f3
    by_cases h3 : 257 ≤ k ∧ k < 514
    · rw [if_pos h3, if_neg (by omega)]
      unfold f2 f1
      rw [if_neg (by omega), if_neg (by omega), if_neg (by omega), if_neg (by omega)]
    · rw [if_neg h3]
      by_cases h4 : 514 ≤ k ∧ k < 771
      · rw [if_pos h4, if_neg (by omega)]
        unfold f2 f1
        rw [if_neg (by omega), if_neg (by omega), if_neg (by omega), if_neg (by omega)]
      · rw [if_neg h4]
  refine ⟨(), z1, nC_plain _, fun _ _ => ⟨(), by decide, by decide, z2, nC_plain _, fun _ _ => br_dec (by omega) ⟨(), z3, nC_plain _, z4, nC_plain _, ?_, nC_plain _, fun _ _ => nC_plain _⟩⟩⟩
  rfl
end Go.Proofs.YtnbfhihibgdgpaaGreatDoor.hf
