/- The store: a node is taken out. -/
import Derived.Test.YtcjbpmphkmcmjaaSz9
import Derived.Test.YtcjbpmphkmcmjaaRows
import Derived.Test.YtcjbpmphkmcmjaaLsoD
set_option maxRecDepth 20000
set_option linter.unusedSimpArgs false
set_option linter.unusedVariables false
namespace Go.Proofs.Ytcjbpmphkmcmjaa.so
open Go Go.Ev Go.Sy Go.RowKit Go.Proofs.Ytcjbpmphkmcmjaa.gl Go.Proofs.Ytcjbpmphkmcmjaa.tk Go.Proofs.Ytcjbpmphkmcmjaa.cp Go.Proofs.Ytcjbpmphkmcmjaa.ic
structure GL where
  g : GR
  l : List Int
  z : Nat
  o : Nat
  k : Nat
def fltI (i : Int) (l : List Int) : List Int := l.filter (fun x => decide (x ≠ i))
def pL : List Nat := [0, 1, 0, 1, 1, 1, 1]
def pD : List Nat := [0, 1, 1, 1, 1, 1, 1]
def slL (g : GL) (j : Nat) : List (Nat × Value) := slA g.g ++ [(5, .slice (some ⟨5, 0, none⟩) (fltI g.g.i (g.l.take j)).length 1), (57, .slice (some ⟨g.z, g.o, some 0⟩) g.k 1), (58, .int .i64 (g.k : Nat)), (59, .int .i64 (j : Nat))]
noncomputable def rlL (g : GL) (j : Nat) : List (Nat × Row) := rlA g.g ++ [(5, iOwn .i64 (fltI g.g.i (g.l.take j)))]
noncomputable def wsL (g : GL) : List (Gate Unit) := [⟨.exit 0, fun _ => True, fun _ => slA g.g ++ [(5, .slice (some ⟨5, 0, none⟩) (fltI g.g.i g.l).length 1)], fun _ => rlA g.g ++ [(5, iOwn .i64 (fltI g.g.i g.l))], 6⟩]
noncomputable def specL : Sy.Spec := specOf 4 6 113 (fun g : GL => g.k ≤ 1048576 ∧ GI g.z g.o g.k g.l) (fun g => slL g 0) (fun g => rlL g 0) wsL
structure GD where
  g : GR
  c : Nat
def slD (g : GD) : List (Nat × Value) := slA g.g ++ [(5, .slice (some ⟨5, 0, none⟩) g.c 1)]
def stD (s : SS) (k : ByteArray) (c : Nat) : SS := ⟨s.bud, s.siz, s.nd, s.fr, s.fn, s.nw, s.ol, if c = 0 then mdel s.m k else s.m⟩
noncomputable def wsD (g : GD) : List (Gate Unit) := [⟨.normal, fun _ => True, fun _ => slA g.g, fun _ => rlA ⟨stD g.g.s g.g.n.key g.c, g.g.i, g.g.n⟩, 6⟩]
noncomputable def specD : Sy.Spec := specOf 4 6 113 (fun g : GD => g.c ≤ 1048576) slD (fun g => rlA g.g) wsD
noncomputable def mRm := mOf [(35, pA, specA), (35, pB, specB'), (35, pL, specL), (35, pD, specD)]
noncomputable def rwS2 (s : SS) (k : Nat) : List (Nat × Row) := [(0, ssR s 1 k 3), (1, gOwn ndC s.nd), (k, iOwn .i64 s.fr), (3, mpR s.m)]
theorem L_round (g : GL) (j : Nat) (Inv : Nat → Prop) (m : Nat → Nat) : mev ERm noM 100 35 (0 :: pL) false (codeOf Try.prog 35 (0 :: pL)) ⟨mkOv (slL g j), 113, []⟩ none ⟨mkR (rlL g j), 6⟩ (roundK 4 6 113 Inv m (slL g) (rlL g) (wsL g) j) =
  let z1 := (Eq (α := List Value) (iCells IntKind.i64 g.1.1.4) (iCells IntKind.i64 g.1.1.4)); let z2 := (iCells IntKind.i64 (fltI g.1.2 (List.take j g.2))); let z3 := (Eq (α
  := List Value) (gC ndC g.1.1.3) (gC ndC g.1.1.3)); let z4 := (gCode (gC enF g.1.3.2) = gCode (gC enF g.1.3.2)); let z5 := (gCode (gC enF g.1.3.3) = gCode (gC enF
  g.1.3.3)); let z6 := (Eq (α := List Value) (mC g.1.1.8) (mC g.1.1.8)); let z7 := (cellI (gCells g.3) (g.4 + Int.toNat (↑j : Int) * 1)); (br (decide ((↑j : Int) < (↑g.5 :
  Int))) (br (decide ((0 : Int) <= (↑j : Int) /\ (↑j : Int) < (↑g.5 : Int))) ((Eq (α := Option Value) ((gCells g.3)[g.4 + Int.toNat (↑j : Int) * 1]?) (some (Value.int
  IntKind.i64 z7))) /\ (br (cellI (gCells g.3) (g.4 + Int.toNat (↑j : Int) * 1) != g.1.2) (br (decide (List.length (fltI g.1.2 (List.take j g.2)) + 1 <= 16777216)) (br
  (decide (0 + List.length (fltI g.1.2 (List.take j g.2)) * 1 <= List.length z2)) (∃ j2 : Nat, let w1 := (iCells IntKind.i64 (fltI g.1.2 (List.take j2 g.2))); ((Inv j2) /\
  ((m j2 < m j) /\ ((0 = 0) /\ ((g.1.2 = g.1.2) /\ ((0 = 0) /\ ((0 = 0) /\ ((List.length (fltI g.1.2 (List.take j2 g.2)) = List.length (fltI g.1.2 (List.take j g.2)) + 1) /\
  ((g.3 = g.3) /\ ((g.4 = g.4) /\ ((g.5 = g.5) /\ ((1 = 1) /\ (((↑g.5 : Int) = (↑g.5 : Int)) /\ (((↑j2 : Int) = IntKind.wrap IntKind.i64 ((↑j : Int) + (1 : Int))) /\
  ((g.1.1.1 = g.1.1.1) /\ ((g.1.1.2 = g.1.1.2) /\ ((0 = 0) /\ ((List.length g.1.1.3 = List.length g.1.1.3) /\ ((0 = 0) /\ ((g.1.1.5 = g.1.1.5) /\ ((g.1.1.6 = g.1.1.6) /\
  ((g.1.1.7 = g.1.1.7) /\ (z3 /\ ((Plain (gC ndC g.1.1.3)) /\ (z1 /\ ((Plain (iCells IntKind.i64 g.1.1.4)) /\ (z6 /\ ((Plain (mC g.1.1.8)) /\ ((g.1.3.1.1 = g.1.3.1.1) /\
  ((g.1.3.1.2 = g.1.3.1.2) /\ ((g.1.3.1.3 = g.1.3.1.3) /\ ((g.1.3.1.4 = g.1.3.1.4) /\ (z4 /\ ((0 = 0) /\ ((List.length g.1.3.2 = List.length g.1.3.2) /\ ((2 = 2) /\
  ((g.1.3.1.5 = g.1.3.1.5) /\ ((g.1.3.1.6 = g.1.3.1.6) /\ (z5 /\ ((0 = 0) /\ ((List.length g.1.3.3 = List.length g.1.3.3) /\ ((2 = 2) /\ ((g.1.3.1.7 = g.1.3.1.7) /\
  ((g.1.3.1.8 = g.1.3.1.8) /\ ((g.1.3.1.9 = g.1.3.1.9) /\ ((g.1.3.1.10 = g.1.3.1.10) /\ ((g.1.3.4 = g.1.3.4) /\ ((g.1.3.5 = g.1.3.5) /\ ((g.1.3.6 = g.1.3.6) /\ ((g.1.3.7 =
  g.1.3.7) /\ ((Eq (α := List Value) w1 (List.take (List.length (fltI g.1.2 (List.take j g.2)) * 1) (List.drop 0 z2) ++ [Value.int IntKind.i64 z7])) /\ ((Plain w1) /\
  True)))))))))))))))))))))))))))))))))))))))))))))))))))) False) False) (∃ j2 : Nat, ((Inv j2) /\ ((m j2 < m j) /\ ((0 = 0) /\ ((g.1.2 = g.1.2) /\ ((0 = 0) /\ ((0 = 0) /\
  ((List.length (fltI g.1.2 (List.take j2 g.2)) = List.length (fltI g.1.2 (List.take j g.2))) /\ ((g.3 = g.3) /\ ((g.4 = g.4) /\ ((g.5 = g.5) /\ ((1 = 1) /\ (((↑g.5 : Int) =
  (↑g.5 : Int)) /\ (((↑j2 : Int) = IntKind.wrap IntKind.i64 ((↑j : Int) + (1 : Int))) /\ ((g.1.1.1 = g.1.1.1) /\ ((g.1.1.2 = g.1.1.2) /\ ((0 = 0) /\ ((List.length g.1.1.3 =
  List.length g.1.1.3) /\ ((0 = 0) /\ ((g.1.1.5 = g.1.1.5) /\ ((g.1.1.6 = g.1.1.6) /\ ((g.1.1.7 = g.1.1.7) /\ (z3 /\ ((Plain (gC ndC g.1.1.3)) /\ (z1 /\ ((Plain (iCells
  IntKind.i64 g.1.1.4)) /\ (z6 /\ ((Plain (mC g.1.1.8)) /\ ((g.1.3.1.1 = g.1.3.1.1) /\ ((g.1.3.1.2 = g.1.3.1.2) /\ ((g.1.3.1.3 = g.1.3.1.3) /\ ((g.1.3.1.4 = g.1.3.1.4) /\
  (z4 /\ ((0 = 0) /\ ((List.length g.1.3.2 = List.length g.1.3.2) /\ ((2 = 2) /\ ((g.1.3.1.5 = g.1.3.1.5) /\ ((g.1.3.1.6 = g.1.3.1.6) /\ (z5 /\ ((0 = 0) /\ ((List.length
  g.1.3.3 = List.length g.1.3.3) /\ ((2 = 2) /\ ((g.1.3.1.7 = g.1.3.1.7) /\ ((g.1.3.1.8 = g.1.3.1.8) /\ ((g.1.3.1.9 = g.1.3.1.9) /\ ((g.1.3.1.10 = g.1.3.1.10) /\ ((g.1.3.4 =
  g.1.3.4) /\ ((g.1.3.5 = g.1.3.5) /\ ((g.1.3.6 = g.1.3.6) /\ ((g.1.3.7 = g.1.3.7) /\ ((Eq (α := List Value) (iCells IntKind.i64 (fltI g.1.2 (List.take j2 g.2))) z2) /\
  ((Plain (iCells IntKind.i64 (fltI g.1.2 (List.take j2 g.2)))) /\ True)))))))))))))))))))))))))))))))))))))))))))))))))))))) False) (∃ y : Unit, ((True) /\ ((0 = 0) /\
  ((g.1.2 = g.1.2) /\ ((0 = 0) /\ ((0 = 0) /\ ((List.length (fltI g.1.2 g.2) = List.length (fltI g.1.2 (List.take j g.2))) /\ ((g.1.1.1 = g.1.1.1) /\ ((g.1.1.2 = g.1.1.2) /\
  ((0 = 0) /\ ((List.length g.1.1.3 = List.length g.1.1.3) /\ ((0 = 0) /\ ((g.1.1.5 = g.1.1.5) /\ ((g.1.1.6 = g.1.1.6) /\ ((g.1.1.7 = g.1.1.7) /\ (z3 /\ ((Plain (gC ndC
  g.1.1.3)) /\ (z1 /\ ((Plain (iCells IntKind.i64 g.1.1.4)) /\ (z6 /\ ((Plain (mC g.1.1.8)) /\ ((g.1.3.1.1 = g.1.3.1.1) /\ ((g.1.3.1.2 = g.1.3.1.2) /\ ((g.1.3.1.3 =
  g.1.3.1.3) /\ ((g.1.3.1.4 = g.1.3.1.4) /\ (z4 /\ ((0 = 0) /\ ((List.length g.1.3.2 = List.length g.1.3.2) /\ ((2 = 2) /\ ((g.1.3.1.5 = g.1.3.1.5) /\ ((g.1.3.1.6 =
  g.1.3.1.6) /\ (z5 /\ ((0 = 0) /\ ((List.length g.1.3.3 = List.length g.1.3.3) /\ ((2 = 2) /\ ((g.1.3.1.7 = g.1.3.1.7) /\ ((g.1.3.1.8 = g.1.3.1.8) /\ ((g.1.3.1.9 =
  g.1.3.1.9) /\ ((g.1.3.1.10 = g.1.3.1.10) /\ ((g.1.3.4 = g.1.3.4) /\ ((g.1.3.5 = g.1.3.5) /\ ((g.1.3.6 = g.1.3.6) /\ ((g.1.3.7 = g.1.3.7) /\ ((Eq (α := List Value) (iCells
  IntKind.i64 (fltI g.1.2 g.2)) z2) /\ ((Plain (iCells IntKind.i64 (fltI g.1.2 g.2))) /\ True)))))))))))))))))))))))))))))))))))))))))))))) := by kernel_rfl
theorem D_round (g : GD) : mev ERm noM 100 35 pD false (codeOf Try.prog 35 pD) ⟨mkOv (slD g), 113, []⟩ none ⟨mkR (rlA g.g), 6⟩ (Sy.endsIn 4 113 (wsD g)) =
  let z4 := (mC (if g.2 = 0 then mdel g.1.1.8 g.1.3.4 else g.1.1.8)); let z1 := ((Plain z4) /\ ((g.1.3.1.1 = g.1.3.1.1) /\ ((g.1.3.1.2 = g.1.3.1.2) /\ ((g.1.3.1.3 =
  g.1.3.1.3) /\ ((g.1.3.1.4 = g.1.3.1.4) /\ ((gCode (gC enF g.1.3.2) = gCode (gC enF g.1.3.2)) /\ ((0 = 0) /\ ((List.length g.1.3.2 = List.length g.1.3.2) /\ ((2 = 2) /\
  ((g.1.3.1.5 = g.1.3.1.5) /\ ((g.1.3.1.6 = g.1.3.1.6) /\ ((gCode (gC enF g.1.3.3) = gCode (gC enF g.1.3.3)) /\ ((0 = 0) /\ ((List.length g.1.3.3 = List.length g.1.3.3) /\
  ((2 = 2) /\ ((g.1.3.1.7 = g.1.3.1.7) /\ ((g.1.3.1.8 = g.1.3.1.8) /\ ((g.1.3.1.9 = g.1.3.1.9) /\ ((g.1.3.1.10 = g.1.3.1.10) /\ ((g.1.3.4 = g.1.3.4) /\ ((g.1.3.5 = g.1.3.5)
  /\ ((g.1.3.6 = g.1.3.6) /\ ((g.1.3.7 = g.1.3.7) /\ True))))))))))))))))))))))); let z2 := (Eq (α := List Value) (iCells IntKind.i64 g.1.1.4) (iCells IntKind.i64 g.1.1.4));
  let z3 := (Eq (α := List Value) (gC ndC g.1.1.3) (gC ndC g.1.1.3)); (br (Int.ofNat g.2 == (0 : Int)) ((MKeys (mC g.1.1.8) (Value.string g.1.3.4)) /\ ((Value.map (some 3) =
  Value.map (some 3)) /\ ((Value.string g.1.3.4 = Value.string g.1.3.4) /\ (∃ y : Unit, ((True) /\ ((0 = 0) /\ ((g.1.2 = g.1.2) /\ ((0 = 0) /\ ((g.1.1.1 = g.1.1.1) /\
  ((g.1.1.2 = g.1.1.2) /\ ((0 = 0) /\ ((List.length g.1.1.3 = List.length g.1.1.3) /\ ((0 = 0) /\ ((g.1.1.5 = g.1.1.5) /\ ((g.1.1.6 = g.1.1.6) /\ ((g.1.1.7 = g.1.1.7) /\ (z3
  /\ ((Plain (gC ndC g.1.1.3)) /\ (z2 /\ ((Plain (iCells IntKind.i64 g.1.1.4)) /\ ((Eq (α := List Value) z4 (mpDel (mC g.1.1.8) (Value.string g.1.3.4))) /\
  z1))))))))))))))))))))) (∃ y : Unit, ((True) /\ ((0 = 0) /\ ((g.1.2 = g.1.2) /\ ((0 = 0) /\ ((g.1.1.1 = g.1.1.1) /\ ((g.1.1.2 = g.1.1.2) /\ ((0 = 0) /\ ((List.length
  g.1.1.3 = List.length g.1.1.3) /\ ((0 = 0) /\ ((g.1.1.5 = g.1.1.5) /\ ((g.1.1.6 = g.1.1.6) /\ ((g.1.1.7 = g.1.1.7) /\ (z3 /\ ((Plain (gC ndC g.1.1.3)) /\ (z2 /\ ((Plain
  (iCells IntKind.i64 g.1.1.4)) /\ ((Eq (α := List Value) z4 (mC g.1.1.8)) /\ z1))))))))))))))))))) := by kernel_rfl
theorem Rm_vc (s s' : SS) (i : Int) : mcall ERm mRm 100 35 [.pointer (some ⟨0, 0, none⟩), .int .i64 i] ⟨mkR (nums 0 [ssR s 1 2 3, gOwn ndC s.nd, iOwn .i64 s.fr, mpR s.m]), 4⟩ (retIsM 4 (.tuple #[]) 5 (rwS2 s' 4)) =
  let z1 := (0 + Int.toNat i * 16 + 1 + 1 + 1 + 1 + 1 + 1 + 1); let z2 := (0 + Int.toNat i * 16 + 1 + 1 + 1 + 1 + 1 + 1 + 1 + 1 + 1 + 1 + 1 + 1 + 1 + 1 + 1); let z3 := (0 +
  Int.toNat i * 16 + 1 + 1 + 1 + 1 + 1 + 1 + 1 + 1 + 1 + 1 + 1 + 1 + 1 + 1); let z4 := (0 + Int.toNat i * 16 + 1 + 1 + 1 + 1 + 1 + 1 + 1 + 1 + 1 + 1 + 1 + 1 + 1); let z5 :=
  (0 + Int.toNat i * 16 + 1 + 1 + 1 + 1 + 1 + 1 + 1 + 1 + 1 + 1 + 1 + 1); let z6 := (0 + Int.toNat i * 16 + 1 + 1 + 1 + 1 + 1 + 1 + 1 + 1 + 1 + 1 + 1); let z7 := (0 +
  Int.toNat i * 16 + 1 + 1 + 1 + 1 + 1 + 1 + 1 + 1 + 1 + 1); let z8 := (0 + Int.toNat i * 16 + 1 + 1 + 1 + 1 + 1 + 1 + 1 + 1 + 1); let z9 := (0 + Int.toNat i * 16 + 1 + 1 +
  1 + 1 + 1 + 1 + 1 + 1); let z10 := (0 + Int.toNat i * 16 + 1 + 1 + 1 + 1 + 1 + 1); (br (decide ((0 : Int) <= i /\ i < (↑(List.length s.3) : Int))) ((Eq (α := Option Value)
  ((gC ndC s.3)[0 + Int.toNat i * 16]?) (some (Value.string (cellS (gC ndC s.3) (0 + Int.toNat i * 16))))) /\ ((Eq (α := Option Value) ((gC ndC s.3)[0 + Int.toNat i * 16 +
  1]?) (some (Value.string (cellS (gC ndC s.3) (0 + Int.toNat i * 16 + 1))))) /\ ((Eq (α := Option Value) ((gC ndC s.3)[0 + Int.toNat i * 16 + 1 + 1]?) (some (Value.string
  (cellS (gC ndC s.3) (0 + Int.toNat i * 16 + 1 + 1))))) /\ ((Eq (α := Option Value) ((gC ndC s.3)[0 + Int.toNat i * 16 + 1 + 1 + 1]?) (some (Value.string (cellS (gC ndC
  s.3) (0 + Int.toNat i * 16 + 1 + 1 + 1))))) /\ ((Eq (α := Option Value) ((gC ndC s.3)[0 + Int.toNat i * 16 + 1 + 1 + 1 + 1]?) (some (Value.slice (some (Addr.mk (cellZ (gC
  ndC s.3) (0 + Int.toNat i * 16 + 1 + 1 + 1 + 1)) (cellO (gC ndC s.3) (0 + Int.toNat i * 16 + 1 + 1 + 1 + 1)) (some 0))) (cellN (gC ndC s.3) (0 + Int.toNat i * 16 + 1 + 1 +
  1 + 1)) 2))) /\ ((Eq (α := Option Value) ((gC ndC s.3)[0 + Int.toNat i * 16 + 1 + 1 + 1 + 1 + 1]?) (some (Value.int IntKind.i64 (cellI (gC ndC s.3) (0 + Int.toNat i * 16 +
  1 + 1 + 1 + 1 + 1))))) /\ ((Eq (α := Option Value) ((gC ndC s.3)[0 + Int.toNat i * 16 + 1 + 1 + 1 + 1 + 1 + 1]?) (some (Value.int IntKind.i64 (cellI (gC ndC s.3) z10))))
  /\ ((Eq (α := Option Value) ((gC ndC s.3)[0 + Int.toNat i * 16 + 1 + 1 + 1 + 1 + 1 + 1 + 1]?) (some (Value.slice (some (Addr.mk (cellZ (gC ndC s.3) z1) (cellO (gC ndC s.3)
  z1) (some 0))) (cellN (gC ndC s.3) z1) 2))) /\ ((Eq (α := Option Value) ((gC ndC s.3)[0 + Int.toNat i * 16 + 1 + 1 + 1 + 1 + 1 + 1 + 1 + 1]?) (some (Value.int IntKind.i64
  (cellI (gC ndC s.3) z9)))) /\ ((Eq (α := Option Value) ((gC ndC s.3)[0 + Int.toNat i * 16 + 1 + 1 + 1 + 1 + 1 + 1 + 1 + 1 + 1]?) (some (Value.string (cellS (gC ndC s.3)
  z8)))) /\ ((Eq (α := Option Value) ((gC ndC s.3)[0 + Int.toNat i * 16 + 1 + 1 + 1 + 1 + 1 + 1 + 1 + 1 + 1 + 1]?) (some (Value.int IntKind.i64 (cellI (gC ndC s.3) z7)))) /\
  ((Eq (α := Option Value) ((gC ndC s.3)[0 + Int.toNat i * 16 + 1 + 1 + 1 + 1 + 1 + 1 + 1 + 1 + 1 + 1 + 1]?) (some (Value.int IntKind.i64 (cellI (gC ndC s.3) z6)))) /\ ((Eq
  (α := Option Value) ((gC ndC s.3)[0 + Int.toNat i * 16 + 1 + 1 + 1 + 1 + 1 + 1 + 1 + 1 + 1 + 1 + 1 + 1]?) (some (Value.string (cellS (gC ndC s.3) z5)))) /\ ((Eq (α :=
  Option Value) ((gC ndC s.3)[0 + Int.toNat i * 16 + 1 + 1 + 1 + 1 + 1 + 1 + 1 + 1 + 1 + 1 + 1 + 1 + 1]?) (some (Value.int IntKind.i64 (cellI (gC ndC s.3) z4)))) /\ ((Eq (α
  := Option Value) ((gC ndC s.3)[0 + Int.toNat i * 16 + 1 + 1 + 1 + 1 + 1 + 1 + 1 + 1 + 1 + 1 + 1 + 1 + 1 + 1]?) (some (Value.int IntKind.i64 (cellI (gC ndC s.3) z3)))) /\
  ((Eq (α := Option Value) ((gC ndC s.3)[0 + Int.toNat i * 16 + 1 + 1 + 1 + 1 + 1 + 1 + 1 + 1 + 1 + 1 + 1 + 1 + 1 + 1 + 1]?) (some (Value.int IntKind.i64 (cellI (gC ndC s.3)
  z2)))) /\ (∃ g : GR, ((ndLk g.1.3 g.3.6) /\ ((0 = 0) /\ ((g.2 = i) /\ ((0 = 0) /\ ((g.1.1 = s.1) /\ ((g.1.2 = s.2) /\ ((0 = 0) /\ ((List.length g.1.3 = List.length s.3) /\
  ((0 = 0) /\ ((g.1.5 = s.5) /\ ((g.1.6 = s.6) /\ ((g.1.7 = s.7) /\ ((Eq (α := List Value) (gC ndC g.1.3) (gC ndC s.3)) /\ ((Plain (gC ndC g.1.3)) /\ ((Eq (α := List Value)
  (iCells IntKind.i64 g.1.4) (iCells IntKind.i64 s.4)) /\ ((Plain (iCells IntKind.i64 g.1.4)) /\ ((Eq (α := List Value) (mC g.1.8) (mC s.8)) /\ ((Plain (mC g.1.8)) /\
  ((g.3.1.1 = cellS (gC ndC s.3) (0 + Int.toNat i * 16)) /\ ((g.3.1.2 = cellS (gC ndC s.3) (0 + Int.toNat i * 16 + 1)) /\ ((g.3.1.3 = cellS (gC ndC s.3) (0 + Int.toNat i *
  16 + 1 + 1)) /\ ((g.3.1.4 = cellS (gC ndC s.3) (0 + Int.toNat i * 16 + 1 + 1 + 1)) /\ ((gCode (gC enF g.3.2) = cellZ (gC ndC s.3) (0 + Int.toNat i * 16 + 1 + 1 + 1 + 1))
  /\ ((0 = cellO (gC ndC s.3) (0 + Int.toNat i * 16 + 1 + 1 + 1 + 1)) /\ ((List.length g.3.2 = cellN (gC ndC s.3) (0 + Int.toNat i * 16 + 1 + 1 + 1 + 1)) /\ ((2 = 2) /\
  ((g.3.1.5 = cellI (gC ndC s.3) (0 + Int.toNat i * 16 + 1 + 1 + 1 + 1 + 1)) /\ ((g.3.1.6 = cellI (gC ndC s.3) z10) /\ ((gCode (gC enF g.3.3) = cellZ (gC ndC s.3) z1) /\ ((0
  = cellO (gC ndC s.3) z1) /\ ((List.length g.3.3 = cellN (gC ndC s.3) z1) /\ ((2 = 2) /\ ((g.3.1.7 = cellI (gC ndC s.3) z9) /\ ((g.3.1.8 = cellS (gC ndC s.3) z8) /\
  ((g.3.1.9 = cellI (gC ndC s.3) z7) /\ ((g.3.1.10 = cellI (gC ndC s.3) z6) /\ ((g.3.4 = cellS (gC ndC s.3) z5) /\ ((g.3.5 = cellI (gC ndC s.3) z4) /\ ((g.3.6 = cellI (gC
  ndC s.3) z3) /\ ((g.3.7 = cellI (gC ndC s.3) z2) /\ (∀ (y : Unit), ((True) → (∃ g2 : GR, ((ndLk g2.1.3 g2.3.7) /\ ((0 = 0) /\ ((g2.2 = g.2) /\ ((0 = 0) /\ ((g2.1.1 =
  g.1.1) /\ ((g2.1.2 = g.1.2) /\ ((0 = 0) /\ ((List.length g2.1.3 = List.length (setOl g.1.3 g.3.6 g.3.7)) /\ ((0 = 0) /\ ((g2.1.5 = g.1.5) /\ ((g2.1.6 = if g.3.6 = (-1 :
  Int) then g.3.7 else g.1.6) /\ ((g2.1.7 = g.1.7) /\ ((Eq (α := List Value) (gC ndC g2.1.3) (gC ndC (setOl g.1.3 g.3.6 g.3.7))) /\ ((Plain (gC ndC g2.1.3)) /\ ((Eq (α :=
  List Value) (iCells IntKind.i64 g2.1.4) (iCells IntKind.i64 g.1.4)) /\ ((Plain (iCells IntKind.i64 g2.1.4)) /\ ((Eq (α := List Value) (mC g2.1.8) (mC g.1.8)) /\ ((Plain
  (mC g2.1.8)) /\ ((g2.3.1.1 = g.3.1.1) /\ ((g2.3.1.2 = g.3.1.2) /\ ((g2.3.1.3 = g.3.1.3) /\ ((g2.3.1.4 = g.3.1.4) /\ ((gCode (gC enF g2.3.2) = gCode (gC enF g.3.2)) /\ ((0
  = 0) /\ ((List.length g2.3.2 = List.length g.3.2) /\ ((2 = 2) /\ ((g2.3.1.5 = g.3.1.5) /\ ((g2.3.1.6 = g.3.1.6) /\ ((gCode (gC enF g2.3.3) = gCode (gC enF g.3.3)) /\ ((0 =
  0) /\ ((List.length g2.3.3 = List.length g.3.3) /\ ((2 = 2) /\ ((g2.3.1.7 = g.3.1.7) /\ ((g2.3.1.8 = g.3.1.8) /\ ((g2.3.1.9 = g.3.1.9) /\ ((g2.3.1.10 = g.3.1.10) /\
  ((g2.3.4 = g.3.4) /\ ((g2.3.5 = g.3.5) /\ ((g2.3.6 = g.3.6) /\ ((g2.3.7 = g.3.7) /\ (∀ (y2 : Unit), ((True) → ((MKeys (mC g2.1.8) (Value.string g2.3.4)) /\ ((IsOne (mpOne
  (mC g2.1.8) (Value.string g2.3.4)) (Value.slice (some (Addr.mk (cellZ (mpOne (mC g2.1.8) (Value.string g2.3.4)) 0) (cellO (mpOne (mC g2.1.8) (Value.string g2.3.4)) 0)
  (some 0))) (cellN (mpOne (mC g2.1.8) (Value.string g2.3.4)) 0) 1)) /\ ((Value.map (some 3) = Value.map (some 3)) /\ ((Value.string g2.3.4 = Value.string g2.3.4) /\ ((MKeys
  (mC g2.1.8) (Value.string g2.3.4)) /\ ((IsOne (mpOne (mC g2.1.8) (Value.string g2.3.4)) (Value.slice (some (Addr.mk (cellZ (mpOne (mC g2.1.8) (Value.string g2.3.4)) 0)
  (cellO (mpOne (mC g2.1.8) (Value.string g2.3.4)) 0) (some 0))) (cellN (mpOne (mC g2.1.8) (Value.string g2.3.4)) 0) 1)) /\ ((Value.slice (some (Addr.mk (cellZ (mpOne (mC
  g2.1.8) (Value.string g2.3.4)) 0) (cellO (mpOne (mC g2.1.8) (Value.string g2.3.4)) 0) (some 0))) (cellN (mpOne (mC g2.1.8) (Value.string g2.3.4)) 0) 1 = Value.slice (some
  (Addr.mk (cellZ (mpOne (mC g2.1.8) (Value.string g2.3.4)) 0) (cellO (mpOne (mC g2.1.8) (Value.string g2.3.4)) 0) (some 0))) (cellN (mpOne (mC g2.1.8) (Value.string
  g2.3.4)) 0) 1) /\ (∃ g3 : GL, ((g3.5 <= 1048576 /\ GI g3.3 g3.4 g3.5 g3.2) /\ ((0 = 0) /\ ((g3.1.2 = g2.2) /\ ((0 = 0) /\ ((0 = 0) /\ ((g3.3 = cellZ (mpOne (mC g2.1.8)
  (Value.string g2.3.4)) 0) /\ ((g3.4 = cellO (mpOne (mC g2.1.8) (Value.string g2.3.4)) 0) /\ ((g3.5 = cellN (mpOne (mC g2.1.8) (Value.string g2.3.4)) 0) /\ ((1 = 1) /\
  (((↑g3.5 : Int) = Int.ofNat (cellN (mpOne (mC g2.1.8) (Value.string g2.3.4)) 0)) /\ (((0 : Int) = (0 : Int)) /\ ((g3.1.1.1 = g2.1.1) /\ ((g3.1.1.2 = g2.1.2) /\ ((0 = 0) /\
  ((List.length g3.1.1.3 = List.length (setNw g2.1.3 g2.3.7 g2.3.6)) /\ ((0 = 0) /\ ((g3.1.1.5 = g2.1.5) /\ ((g3.1.1.6 = g2.1.6) /\ ((g3.1.1.7 = if g2.3.7 = (-1 : Int) then
  g2.3.6 else g2.1.7) /\ ((Eq (α := List Value) (gC ndC g3.1.1.3) (gC ndC (setNw g2.1.3 g2.3.7 g2.3.6))) /\ ((Plain (gC ndC g3.1.1.3)) /\ ((Eq (α := List Value) (iCells
  IntKind.i64 g3.1.1.4) (iCells IntKind.i64 g2.1.4)) /\ ((Plain (iCells IntKind.i64 g3.1.1.4)) /\ ((Eq (α := List Value) (mC g3.1.1.8) (mC g2.1.8)) /\ ((Plain (mC g3.1.1.8))
  /\ ((g3.1.3.1.1 = g2.3.1.1) /\ ((g3.1.3.1.2 = g2.3.1.2) /\ ((g3.1.3.1.3 = g2.3.1.3) /\ ((g3.1.3.1.4 = g2.3.1.4) /\ ((gCode (gC enF g3.1.3.2) = gCode (gC enF g2.3.2)) /\
  ((0 = 0) /\ ((List.length g3.1.3.2 = List.length g2.3.2) /\ ((2 = 2) /\ ((g3.1.3.1.5 = g2.3.1.5) /\ ((g3.1.3.1.6 = g2.3.1.6) /\ ((gCode (gC enF g3.1.3.3) = gCode (gC enF
  g2.3.3)) /\ ((0 = 0) /\ ((List.length g3.1.3.3 = List.length g2.3.3) /\ ((2 = 2) /\ ((g3.1.3.1.7 = g2.3.1.7) /\ ((g3.1.3.1.8 = g2.3.1.8) /\ ((g3.1.3.1.9 = g2.3.1.9) /\
  ((g3.1.3.1.10 = g2.3.1.10) /\ ((g3.1.3.4 = g2.3.4) /\ ((g3.1.3.5 = g2.3.5) /\ ((g3.1.3.6 = g2.3.6) /\ ((g3.1.3.7 = g2.3.7) /\ ((Eq (α := List Value) ([]) ([])) /\ (∀ (y3 :
  Unit), ((True) → (br (decide (0 + List.length (fltI g3.1.2 g3.2) * 1 <= List.length (iCells IntKind.i64 (fltI g3.1.2 g3.2)))) ((gAll (shown (iCells IntKind.i64 (fltI
  g3.1.2 g3.2)) 0 (List.length (fltI g3.1.2 g3.2)) 1) = true) /\ ((MKeys (mC g3.1.1.8) (Value.string g3.1.3.4)) /\ ((Value.map (some 3) = Value.map (some 3)) /\
  ((Value.string g3.1.3.4 = Value.string g3.1.3.4) /\ (∃ g4 : GD, ((g4.2 <= 1048576) /\ ((0 = 0) /\ ((g4.1.2 = g3.1.2) /\ ((0 = 0) /\ ((0 = 0) /\ ((g4.2 = List.length (fltI
  g3.1.2 g3.2)) /\ ((g4.1.1.1 = g3.1.1.1) /\ ((g4.1.1.2 = g3.1.1.2) /\ ((0 = 0) /\ ((List.length g4.1.1.3 = List.length g3.1.1.3) /\ ((0 = 0) /\ ((g4.1.1.5 = g3.1.1.5) /\
  ((g4.1.1.6 = g3.1.1.6) /\ ((g4.1.1.7 = g3.1.1.7) /\ ((Eq (α := List Value) (gC ndC g4.1.1.3) (gC ndC g3.1.1.3)) /\ ((Plain (gC ndC g4.1.1.3)) /\ ((Eq (α := List Value)
  (iCells IntKind.i64 g4.1.1.4) (iCells IntKind.i64 g3.1.1.4)) /\ ((Plain (iCells IntKind.i64 g4.1.1.4)) /\ ((Eq (α := List Value) (mC g4.1.1.8) (mpPut (mC g3.1.1.8)
  (Value.string g3.1.3.4) (Value.slice (some (Addr.mk (gCode (shown (iCells IntKind.i64 (fltI g3.1.2 g3.2)) 0 (List.length (fltI g3.1.2 g3.2)) 1)) 0 (some 0))) (List.length
  (fltI g3.1.2 g3.2)) 1))) /\ ((Plain (mC g4.1.1.8)) /\ ((g4.1.3.1.1 = g3.1.3.1.1) /\ ((g4.1.3.1.2 = g3.1.3.1.2) /\ ((g4.1.3.1.3 = g3.1.3.1.3) /\ ((g4.1.3.1.4 = g3.1.3.1.4)
  /\ ((gCode (gC enF g4.1.3.2) = gCode (gC enF g3.1.3.2)) /\ ((0 = 0) /\ ((List.length g4.1.3.2 = List.length g3.1.3.2) /\ ((2 = 2) /\ ((g4.1.3.1.5 = g3.1.3.1.5) /\
  ((g4.1.3.1.6 = g3.1.3.1.6) /\ ((gCode (gC enF g4.1.3.3) = gCode (gC enF g3.1.3.3)) /\ ((0 = 0) /\ ((List.length g4.1.3.3 = List.length g3.1.3.3) /\ ((2 = 2) /\
  ((g4.1.3.1.7 = g3.1.3.1.7) /\ ((g4.1.3.1.8 = g3.1.3.1.8) /\ ((g4.1.3.1.9 = g3.1.3.1.9) /\ ((g4.1.3.1.10 = g3.1.3.1.10) /\ ((g4.1.3.4 = g3.1.3.4) /\ ((g4.1.3.5 = g3.1.3.5)
  /\ ((g4.1.3.6 = g3.1.3.6) /\ ((g4.1.3.7 = g3.1.3.7) /\ (∀ (y4 : Unit), ((True) → ((Value.int IntKind.i64 g4.1.1.2 = Value.int IntKind.i64 g4.1.1.2) /\ ((Value.int
  IntKind.i64 g4.1.3.5 = Value.int IntKind.i64 g4.1.3.5) /\ (br (decide ((0 : Int) <= g4.1.2 /\ g4.1.2 < (↑(List.length g4.1.1.3) : Int))) (br (decide (0 + Int.toNat g4.1.2
  * 16 + 16 <= List.length (gC ndC g4.1.1.3))) (br (decide (g4.1.1.5 + 1 <= 16777216)) (br (decide (0 + g4.1.1.5 * 1 <= List.length (iCells IntKind.i64 g4.1.1.4))) ((s'.1 =
  g4.1.1.1) /\ ((s'.2 = IntKind.wrap IntKind.i64 (g4.1.1.2 - g4.1.3.5)) /\ ((0 = 0) /\ ((List.length s'.3 = List.length g4.1.1.3) /\ ((0 = 0) /\ ((s'.5 = g4.1.1.5 + 1) /\
  ((s'.6 = g4.1.1.6) /\ ((s'.7 = g4.1.1.7) /\ ((Eq (α := List Value) (gC ndC s'.3) (ovr (gC ndC g4.1.1.3) (0 + Int.toNat g4.1.2 * 16) [Value.string (ByteArray.mk #[]),
  Value.string (ByteArray.mk #[]), Value.string (ByteArray.mk #[]), Value.string (ByteArray.mk #[]), Value.slice (some (Addr.mk (gCode []) 0 (some 0))) 0 2, Value.int
  IntKind.i64 (0 : Int), Value.int IntKind.i64 (0 : Int), Value.slice (some (Addr.mk (gCode []) 0 (some 0))) 0 2, Value.int IntKind.i64 (0 : Int), Value.string (ByteArray.mk
  #[]), Value.int IntKind.i64 (0 : Int), Value.int IntKind.i64 (0 : Int), Value.string (ByteArray.mk #[]), Value.int IntKind.i64 (0 : Int), Value.int IntKind.i64 (0 : Int),
  Value.int IntKind.i64 (0 : Int)])) /\ ((Plain (gC ndC s'.3)) /\ ((Eq (α := List Value) (iCells IntKind.i64 s'.4) (List.take (g4.1.1.5 * 1) (List.drop 0 (iCells IntKind.i64
  g4.1.1.4)) ++ [Value.int IntKind.i64 g4.1.2])) /\ ((Plain (iCells IntKind.i64 s'.4)) /\ ((Eq (α := List Value) (mC s'.8) (mC (if g4.2 = 0 then mdel g4.1.1.8 g4.1.3.4 else
  g4.1.1.8))) /\ ((Plain (mC s'.8)) /\ True)))))))))))))) False) False) False) False))))))))))))))))))))))))))))))))))))))))))))))))))))
  False)))))))))))))))))))))))))))))))))))))))))))))))))))))))))))))))))))))))))))))))))))))))))))))))))))))))))))))))))))))))))))))))))))))))))))))))))))))))))))))))))
  False) := by kernel_rfl
theorem L_piece : PieceOk ERm 4 (35, pL, specL) := by
  refine piece_loop mixed (calls_envT all_nil) (lok_envT _ _) lm_none (n := 100) (by kernel_rfl) (fun _ : GL => (0 : Nat)) (fun g j => j ≤ g.k) (fun g j => g.k - j) (sl := slL) (rl := rlL) (fun g hg => Nat.zero_le _) (fun g j hg hj => ?_)
  refine (L_round g j _ _).mpr ?_
  obtain ⟨⟨s, i, n⟩, l, z, o, k⟩ := g
  obtain ⟨g0, g1⟩ := hg
  simp only at hj g0 g1
  simp only [Nat.zero_add, Nat.mul_one, Int.toNat_natCast, nPl, mC_plain, iCells_plain, and_true, true_and]
  refine br_if (fun h => br_dec (by omega) ?_) (fun h => ?_)
  · have hi : j < k := by omega
    obtain ⟨c1, c2⟩ := gi_get g1 hi
    have hk := g1.2.2
    have w := i64_succ (show j < 9223372036854775807 by omega)
    have hx : l.getD j 0 = l[j] := by rw [List.getD_eq_getElem?_getD, List.getElem?_eq_getElem (by omega)]; rfl
    have ht : l.take (j + 1) = l.take j ++ [l.getD j 0] := by rw [hx]; exact List.take_succ_eq_append_getElem (by omega)
    have hf : (fltI i (l.take j)).length ≤ j := by
      unfold fltI
      exact Nat.le_trans (List.length_filter_le _ _) (by rw [List.length_take]; omega)
    simp only [c1, c2, w, true_and, iCells_len]
    refine br_intro (fun q => br_dec (by omega) (br_dec (Nat.le_refl _) ⟨j + 1, by omega, by omega, ?_, rfl, ?_⟩)) (fun q => ⟨j + 1, by omega, by omega, ?_, rfl, ?_⟩)
    · have q : l.getD j 0 ≠ i := by simpa using q
      rw [ht]; unfold fltI; rw [List.filter_append, List.length_append, List.filter_cons_of_pos (by simpa using q)]; rfl
    · have q : l.getD j 0 ≠ i := by simpa using q
      have e1 : fltI i (l.take (j + 1)) = fltI i (l.take j) ++ [l.getD j 0] := by
        rw [ht]; unfold fltI; rw [List.filter_append, List.filter_cons_of_pos (by simpa using q)]; rfl
      rw [e1, ← iCells_app, List.drop_zero]
      generalize fltI i (l.take j) = F
      rw [List.take_of_length_le (by rw [iCells_len]; exact Nat.le_refl _)]; rfl
    · have q : l.getD j 0 = i := by simpa using q
      rw [ht]; unfold fltI; rw [List.filter_append, List.filter_cons_of_neg (by simpa using q)]; simp
    · have q : l.getD j 0 = i := by simpa using q
      rw [ht]; unfold fltI; rw [List.filter_append, List.filter_cons_of_neg (by simpa using q)]; simp
  · have : l.take j = l := List.take_of_length_le (by have := g1.2.2; omega)
    rw [this]; exact ⟨(), rfl, rfl⟩
theorem D_piece : PieceOk ERm 4 (35, pD, specD) := by
  refine piece_code mixed (calls_envT all_nil) (lok_envT _ _) lm_none (n := 100) (fun g hg => ?_)
  refine (D_round g).mpr ?_
  obtain ⟨⟨s, i, n⟩, c⟩ := g
  simp only at hg
  simp only [Nat.zero_add, Nat.mul_one, Int.toNat_natCast, nPl, mC_plain, iCells_plain, mC_keysS, mC_del, and_true, true_and, exists_const]
  refine br_intro (fun h => ?_) (fun h => ?_)
  · have h : c = 0 := by simpa using h
    rw [if_pos h]
  · have h : ¬ c = 0 := by simpa using h
    rw [if_neg h]
theorem set_mod {α : Type} (a : α) : ∀ (l : List α) (k : Nat), l.set k a = l.modify k (fun _ => a)
  | [], k => by simp
  | x :: l, 0 => by simp
  | x :: l, k + 1 => by simp [set_mod a l k]
theorem setOl_len (l : List Nd) (k v : Int) : (setOl l k v).length = l.length := by unfold setOl; split <;> simp
theorem setNw_len (l : List Nd) (k v : Int) : (setNw l k v).length = l.length := by unfold setNw; split <;> simp
theorem lm_four {E : Env} {n0 : Nat} {x y z u : FuncId × List Nat × Sy.Spec} (h : PieceOk E n0 x) (k : PieceOk E n0 y) (l : PieceOk E n0 z) (m : PieceOk E n0 u) : LMOk E n0 (mOf [x, y, z, u]) := lm_of _ fun q hq => by
  simp only [List.mem_cons, List.not_mem_nil, or_false] at hq
  rcases hq with rfl | rfl | rfl | rfl
  · exact h
  · exact k
  · exact l
  · exact m
theorem shownI (l : List Int) : shown (iCells .i64 l) 0 l.length 1 = iCells .i64 l := by
  unfold shown; rw [List.drop_zero, Nat.mul_one, List.take_of_length_le (by rw [iCells_len]; exact Nat.le_refl _)]
theorem set_z (l : List Nd) (k : Nat) (h : k < l.length) : ovr (gC ndC l) (k * 16) [Value.string (ByteArray.mk #[]), Value.string (ByteArray.mk #[]), Value.string (ByteArray.mk #[]), Value.string (ByteArray.mk #[]), Value.slice (some (Addr.mk (gCode []) 0 (some 0))) 0 2, Value.int IntKind.i64 (0 : Int), Value.int IntKind.i64 (0 : Int), Value.slice (some (Addr.mk (gCode []) 0 (some 0))) 0 2, Value.int IntKind.i64 (0 : Int), Value.string (ByteArray.mk #[]), Value.int IntKind.i64 (0 : Int), Value.int IntKind.i64 (0 : Int), Value.string (ByteArray.mk #[]), Value.int IntKind.i64 (0 : Int), Value.int IntKind.i64 (0 : Int), Value.int IntKind.i64 (0 : Int)] = gC ndC (l.modify k (fun _ => ndZ)) := by
  rw [← set_mod]
  exact gC_set ndC_len l k ndZ h
theorem Rm_con (s : SS) (i : Int) (hi : 0 ≤ i ∧ i < (s.nd.length : Int)) (hn : s.nd.length ≤ 1000000) (h1 : ndLk s.nd (gN s.nd i.toNat).nw) (h2 : ndLk s.nd (gN s.nd i.toNat).ol) (hl : (mget s.m (gN s.nd i.toNat).key).length ≤ 1000000) (hf : s.fn ≤ s.fr.length ∧ s.fn ≤ 1000000) (hz : I64 (s.siz - (gN s.nd i.toNat).cost)) :
    ConM Try.prog 35 [.pointer (some ⟨0, 0, none⟩), .int .i64 i] [ssR s 1 2 3, gOwn ndC s.nd, iOwn .i64 s.fr, mpR s.m] (.tuple #[]) 5 (rwS2 (rmS s i.toNat) 4) := by
  refine conM_vc (E := ERm) mixed (calls_envT all_nil) (lok_envT _ _) (M := mRm) (lm_four A_piece B_piece L_piece D_piece) (Rm_vc s _ i) ?_
  obtain ⟨a0, a1, a2, a3, a4, a5, a6, a7, a8, a9, a10, a11, a12, a13, a14, a15⟩ := nGetA s.nd i.toNat (by omega)
  obtain ⟨b0, b1, b2, b3, b4, b4o, b4n, b5, b6, b7, b7o, b7n, b8, b9, b10, b11, b12, b13, b14, b15⟩ := nGetB s.nd i.toNat (by omega)
  simp only [Nat.zero_add, Nat.add_zero, Nat.mul_one, Int.toNat_natCast, nPl, mC_plain, iCells_plain, iCells_len, mC_keysS, mC_isone, Nat.add_assoc, Nat.reduceAdd, a0, a1, a2, a3, a4, a5, a6, a7, a8, a9, a10, a11, a12, a13, a14, a15, b0, b1, b2, b3, b4, b4o, b4n, b5, b6, b7, b7o, b7n, b8, b9, b10, b11, b12, b13, b14, b15, true_and, and_true, forall_const]
  refine br_dec hi ?_
  have gi := mC_gi (gN s.nd i.toNat).key s.m
  generalize hnn : gN s.nd i.toNat = n at *
  clear a0 a1 a2 a3 a4 a5 a6 a7 a8 a9 a10 a11 a12 a13 a14 a15 b0 b1 b2 b3 b4 b4o b4n b5 b6 b7 b7o b7n b8 b9 b10 b11 b12 b13 b14 b15
  refine ⟨⟨s, i, n⟩, h1, ?_⟩
  repeat (refine ⟨rfl, ?_⟩)
  refine ⟨⟨stA s n, i, n⟩, by show ndLk (setOl s.nd n.nw n.ol) n.ol; unfold ndLk at h2 ⊢; rw [setOl_len]; exact h2, ?_⟩
  repeat (refine ⟨rfl, ?_⟩)
  refine ⟨⟨⟨stB (stA s n) n, i, n⟩, mget s.m n.key, _, _, _⟩, ⟨Nat.le_trans (Nat.le_of_eq gi.2.2) (Nat.le_trans hl (by decide)), gi⟩, ?_⟩
  repeat (refine ⟨rfl, ?_⟩)
  have hfl : (fltI i (mget s.m n.key)).length ≤ 1048576 := by
    unfold fltI; exact Nat.le_trans (List.length_filter_le _ _) (by omega)
  refine br_dec (Nat.le_refl _) ⟨by rw [shownI]; exact gAll_I _, ⟨⟨⟨s.bud, s.siz, setNw (setOl s.nd n.nw n.ol) n.ol n.nw, s.fr, s.fn, if n.nw = -1 then n.ol else s.nw, if n.ol = -1 then n.nw else s.ol, mset s.m n.key (fltI i (mget s.m n.key))⟩, i, n⟩, (fltI i (mget s.m n.key)).length⟩, hfl, ?_⟩
  repeat (refine ⟨rfl, ?_⟩)
  refine ⟨by rw [shownI]; exact (mC_put _ _ _).symm, ?_⟩
  repeat (refine ⟨rfl, ?_⟩)
  have hlen : (setNw (setOl s.nd n.nw n.ol) n.ol n.nw).length = s.nd.length := by rw [setNw_len, setOl_len]
  simp only [hlen, nLen]
  refine br_dec hi (br_dec (by omega) (br_dec (by omega) (br_dec (by omega) ?_)))
  have hii : ((i.toNat : Nat) : Int) = i := Int.toNat_of_nonneg hi.1
  have hfi : (mget s.m n.key).filter (fun k => decide (k ≠ ((i.toNat : Nat) : Int))) = fltI i (mget s.m n.key) := by rw [hii]; rfl
  have e0 : rmS s i.toNat = ⟨s.bud, s.siz - n.cost, (setNw (setOl s.nd n.nw n.ol) n.ol n.nw).modify i.toNat (fun _ => ndZ), s.fr.take s.fn ++ [((i.toNat : Nat) : Int)], s.fn + 1, if n.nw = -1 then n.ol else s.nw, if n.ol = -1 then n.nw else s.ol, rmM s.m n.key ((mget s.m n.key).filter (fun k => decide (k ≠ ((i.toNat : Nat) : Int))))⟩ := by
    unfold rmS rmN setNw setOl
    rw [hnn]
  rw [e0]
  simp only
  refine ⟨trivial, (wr64_id hz).symm, by rw [List.length_modify, hlen], trivial, trivial, trivial, ?_, ?_, ?_⟩
  · exact (set_z _ _ (by rw [hlen]; omega)).symm
  · rw [hii, List.drop_zero, iCells_take, ← iCells_app]; rfl
  · rw [hfi]
    unfold rmM
    by_cases hq : fltI i (mget s.m n.key) = []
    · rw [if_pos hq, if_pos (by rw [hq]; rfl)]
    · rw [if_neg hq, if_neg (fun e => hq (List.eq_nil_of_length_eq_zero e))]
end Go.Proofs.Ytcjbpmphkmcmjaa.so
