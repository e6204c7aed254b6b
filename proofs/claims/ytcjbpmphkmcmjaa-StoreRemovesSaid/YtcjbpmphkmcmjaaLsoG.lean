/- The store: a node is put in front; its fields are rows of its own. -/
import Derived.Test.YtcjbpmphkmcmjaaSz9
import Derived.Test.YtcjbpmphkmcmjaaRows
import Derived.Test.YtcjbpmphkmcmjaaLsoF
set_option maxRecDepth 20000
set_option linter.unusedSimpArgs false
set_option linter.unusedVariables false
namespace Go.Proofs.Ytcjbpmphkmcmjaa.so
open Go Go.Ev Go.Sy Go.RowKit Go.Proofs.Ytcjbpmphkmcmjaa.gl Go.Proofs.Ytcjbpmphkmcmjaa.tk Go.Proofs.Ytcjbpmphkmcmjaa.cp Go.Proofs.Ytcjbpmphkmcmjaa.ic
def ndO (n : Nd) (a b : Nat) : List Value := [.string n.x.m, .string n.x.s, .string n.x.a, .string n.x.p, .slice (some ⟨a, 0, none⟩) n.e.length 2, .int .i64 n.x.k, .int .i64 n.x.st, .slice (some ⟨b, 0, none⟩) n.r.length 2, .int .i64 n.x.k2, .string n.x.body, .int .i64 n.x.asked, .int .i64 n.x.came, .string n.key, .int .i64 n.cost, .int .i64 n.nw, .int .i64 n.ol]
def slPo (g : GP) : List (Nat × Value) := [(0, .pointer (some ⟨0, 0, none⟩)), (3, .pointer (some ⟨6, 0, none⟩)), (4, .int .i64 (g.i : Nat))]
noncomputable def rwTo (s : SS) (k : Nat) : List (Nat × Row) := [(0, ssR s k 4 5), (k, gOwn ndC s.nd), (4, iOwn .i64 s.fr), (5, mpR s.m)]
noncomputable def rlPo (g : GP) (k : Nat) : List (Nat × Row) := rwTo g.s k ++ [(6, ⟨ndO g.n 1 2, false, .cells false⟩)]
noncomputable def rlPi (g : GP) : List (Nat × Row) := rlPo g 3 ++ [(1, gOwn enF g.n.e), (2, gOwn enF g.n.r)]
noncomputable def wsPo (g : GP) : List (Gate Unit) := [⟨.normal, fun _ => True, fun _ => slPo ⟨g.s, adI g.s, g.n⟩, fun _ => rlPo ⟨stP g.s g.n, g.i, g.n⟩ 7, 8⟩]
noncomputable def wsQo (g : GP) : List (Gate Unit) := [⟨.normal, fun _ => True, fun _ => slPo g, fun _ => rlPo ⟨stQ g.s g.i, g.i, g.n⟩ 7, 8⟩]
noncomputable def specPo : Sy.Spec := specOf 6 7 107 preP slPo rlPi wsPo
noncomputable def specQo : Sy.Spec := specOf 6 8 107 (fun g : GP => ndLk g.s.nd g.s.nw) slPo (fun g => rlPo g 7) wsQo
noncomputable def mAdo := mOf [(36, pP, specPo), (36, pQ, specQo)]
theorem Po_round (g : GP) : mev ERm noM 100 36 pP false (codeOf Try.prog 36 pP) ⟨mkOv (slPo g), 107, []⟩ none ⟨mkR (rlPi g), 7⟩ (Sy.endsIn 6 107 (wsPo g)) =
  let z1 := (Array.mk [Value.string g.3.1.1, Value.string g.3.1.2, Value.string g.3.1.3, Value.string g.3.1.4, Value.slice (some (Addr.mk 1 0 none)) (List.length g.3.2) 2,
  Value.int IntKind.i64 g.3.1.5, Value.int IntKind.i64 g.3.1.6, Value.slice (some (Addr.mk 2 0 none)) (List.length g.3.3) 2, Value.int IntKind.i64 g.3.1.7, Value.string
  g.3.1.8, Value.int IntKind.i64 g.3.1.9, Value.int IntKind.i64 g.3.1.10, Value.string g.3.4, Value.int IntKind.i64 g.3.5, Value.int IntKind.i64 g.3.6, Value.int IntKind.i64
  g.3.7]); let z2 := (IntKind.wrap IntKind.i64 (Int.ofNat g.1.5 - (1 : Int))); let z3 := ((Eq (α := List Value) (iCells IntKind.i64 g.1.4) (iCells IntKind.i64 g.1.4)) /\
  ((Plain (iCells IntKind.i64 g.1.4)) /\ ((Eq (α := List Value) (mC g.1.8) (mC g.1.8)) /\ ((Plain (mC g.1.8)) /\ ((g.3.1.1 = g.3.1.1) /\ ((g.3.1.2 = g.3.1.2) /\ ((g.3.1.3 =
  g.3.1.3) /\ ((g.3.1.4 = g.3.1.4) /\ ((0 = 0) /\ ((List.length g.3.2 = List.length g.3.2) /\ ((g.3.1.5 = g.3.1.5) /\ ((g.3.1.6 = g.3.1.6) /\ ((0 = 0) /\ ((List.length g.3.3
  = List.length g.3.3) /\ ((g.3.1.7 = g.3.1.7) /\ ((g.3.1.8 = g.3.1.8) /\ ((g.3.1.9 = g.3.1.9) /\ ((g.3.1.10 = g.3.1.10) /\ ((g.3.4 = g.3.4) /\ ((g.3.5 = g.3.5) /\ ((g.3.6 =
  g.3.6) /\ ((g.3.7 = g.3.7) /\ True)))))))))))))))))))))); let z4 := (cellI (iCells IntKind.i64 g.1.4) (0 + Int.toNat z2 * 1)); let z5 := (decide ((0 : Int) <= (↑0 : Int)
  /\ (0 : Int) <= IntKind.wrap IntKind.i64 (Int.ofNat g.1.5 - (1 : Int)) /\ IntKind.wrap IntKind.i64 (Int.ofNat g.1.5 - (1 : Int)) <= (↑g.1.5 : Int))); let z6 := (shown (gC
  enF g.3.2) 0 (List.length g.3.2) 2); let z7 := (shown (gC enF g.3.3) 0 (List.length g.3.3) 2); let z8 := (Value.slice (some (Addr.mk 3 0 none)) (List.length g.1.3) 16 =
  Value.slice (some (Addr.mk 3 0 none)) (List.length g.1.3) 16); let z9 := (Eq (α := Option Value) ((iCells IntKind.i64 g.1.4)[0 + Int.toNat z2 * 1]?) (some (Value.int
  IntKind.i64 z4))); let z10 := (Value.slice (some (Addr.mk 4 0 none)) g.1.5 1 = Value.slice (some (Addr.mk 4 0 none)) g.1.5 1); let z11 := (decide (0 + List.length g.3.2 *
  2 <= List.length (gC enF g.3.2))); let z12 := (decide (0 + List.length g.3.3 * 2 <= List.length (gC enF g.3.3))); (br (decide (IntKind.wrap IntKind.i64 (Int.ofNat g.1.5 -
  (1 : Int)) ≥ (0 : Int))) (br (decide ((0 : Int) <= IntKind.wrap IntKind.i64 (Int.ofNat g.1.5 - (1 : Int)) /\ IntKind.wrap IntKind.i64 (Int.ofNat g.1.5 - (1 : Int)) <
  (↑g.1.5 : Int))) (z9 /\ (br z5 (z10 /\ (z9 /\ ((Value.int IntKind.i64 z4 = Value.int IntKind.i64 z4) /\ (z10 /\ (br z5 ((Value.slice (some (Addr.mk 4 0 none)) (Int.toNat
  z2 - 0) 1 = Value.slice (some (Addr.mk 4 0 none)) (Int.toNat z2 - 0) 1) /\ (br (decide ((0 : Int) <= cellI (iCells IntKind.i64 g.1.4) (0 + Int.toNat z2 * 1) /\ cellI
  (iCells IntKind.i64 g.1.4) (0 + Int.toNat z2 * 1) < (↑(List.length g.1.3) : Int))) (br z11 ((gAll z6 = true) /\ (br z12 ((gAll z7 = true) /\ (br (decide (0 + Int.toNat z4
  * 16 + 16 <= List.length (gC ndC g.1.3))) (z8 /\ ((Value.agg z1 = Value.agg z1) /\ (∃ y : Unit, ((True) /\ ((0 = 0) /\ ((0 = 0) /\ (((↑(adI (GP.s g)) : Int) = cellI
  (iCells IntKind.i64 g.1.4) (0 + Int.toNat z2 * 1)) /\ ((g.1.1 = g.1.1) /\ ((g.1.2 = g.1.2) /\ ((0 = 0) /\ ((List.length (if g.1.5 = 0 then g.1.3 ++ [GP.n g] else
  List.modify g.1.3 (adI (GP.s g)) fun x ↦ GP.n g) = List.length g.1.3) /\ ((0 = 0) /\ ((g.1.5 - 1 = Int.toNat z2 - 0) /\ ((g.1.6 = g.1.6) /\ ((g.1.7 = g.1.7) /\ ((Eq (α :=
  List Value) (gC ndC (if g.1.5 = 0 then g.1.3 ++ [GP.n g] else List.modify g.1.3 (adI (GP.s g)) fun x ↦ GP.n g)) (ovr (gC ndC g.1.3) (0 + Int.toNat z4 * 16) [Value.string
  g.3.1.1, Value.string g.3.1.2, Value.string g.3.1.3, Value.string g.3.1.4, Value.slice (some (Addr.mk (gCode z6) 0 (some 0))) (List.length g.3.2) 2, Value.int IntKind.i64
  g.3.1.5, Value.int IntKind.i64 g.3.1.6, Value.slice (some (Addr.mk (gCode z7) 0 (some 0))) (List.length g.3.3) 2, Value.int IntKind.i64 g.3.1.7, Value.string g.3.1.8,
  Value.int IntKind.i64 g.3.1.9, Value.int IntKind.i64 g.3.1.10, Value.string g.3.4, Value.int IntKind.i64 g.3.5, Value.int IntKind.i64 g.3.6, Value.int IntKind.i64 g.3.7]))
  /\ ((Plain (gC ndC (if g.1.5 = 0 then g.1.3 ++ [GP.n g] else List.modify g.1.3 (adI (GP.s g)) fun x ↦ GP.n g))) /\ z3))))))))))))))))) False)) False)) False) False))
  False))))) False)) False) (br z11 ((gAll z6 = true) /\ (br z12 ((gAll z7 = true) /\ (br (decide (List.length g.1.3 + 1 <= 16777216)) (br (decide (0 + List.length g.1.3 *
  16 <= List.length (gC ndC g.1.3))) (z8 /\ ((Value.agg z1 = Value.agg z1) /\ (∃ y : Unit, ((True) /\ ((0 = 0) /\ ((0 = 0) /\ (((↑(adI (GP.s g)) : Int) = (↑g.2 : Int)) /\
  ((g.1.1 = g.1.1) /\ ((g.1.2 = g.1.2) /\ ((0 = 0) /\ ((List.length (if g.1.5 = 0 then g.1.3 ++ [GP.n g] else List.modify g.1.3 (adI (GP.s g)) fun x ↦ GP.n g) = List.length
  g.1.3 + 1) /\ ((0 = 0) /\ ((g.1.5 - 1 = g.1.5) /\ ((g.1.6 = g.1.6) /\ ((g.1.7 = g.1.7) /\ ((Eq (α := List Value) (gC ndC (if g.1.5 = 0 then g.1.3 ++ [GP.n g] else
  List.modify g.1.3 (adI (GP.s g)) fun x ↦ GP.n g)) (List.take (List.length g.1.3 * 16) (List.drop 0 (gC ndC g.1.3)) ++ [Value.string g.3.1.1, Value.string g.3.1.2,
  Value.string g.3.1.3, Value.string g.3.1.4, Value.slice (some (Addr.mk (gCode z6) 0 (some 0))) (List.length g.3.2) 2, Value.int IntKind.i64 g.3.1.5, Value.int IntKind.i64
  g.3.1.6, Value.slice (some (Addr.mk (gCode z7) 0 (some 0))) (List.length g.3.3) 2, Value.int IntKind.i64 g.3.1.7, Value.string g.3.1.8, Value.int IntKind.i64 g.3.1.9,
  Value.int IntKind.i64 g.3.1.10, Value.string g.3.4, Value.int IntKind.i64 g.3.5, Value.int IntKind.i64 g.3.6, Value.int IntKind.i64 g.3.7])) /\ ((Plain (gC ndC (if g.1.5 =
  0 then g.1.3 ++ [GP.n g] else List.modify g.1.3 (adI (GP.s g)) fun x ↦ GP.n g))) /\ z3))))))))))))))))) False) False)) False)) False)) := by kernel_rfl
theorem Qo_round (g : GP) : mev ERm noM 100 36 pQ false (codeOf Try.prog 36 pQ) ⟨mkOv (slPo g), 107, []⟩ none ⟨mkR (rlPo g 7), 8⟩ (Sy.endsIn 6 107 (wsQo g)) =
  let z1 := ((Plain (gC ndC (setNw g.1.3 g.1.6 (↑g.2 : Int)))) /\ ((Eq (α := List Value) (iCells IntKind.i64 g.1.4) (iCells IntKind.i64 g.1.4)) /\ ((Plain (iCells
  IntKind.i64 g.1.4)) /\ ((Eq (α := List Value) (mC g.1.8) (mC g.1.8)) /\ ((Plain (mC g.1.8)) /\ ((g.3.1.1 = g.3.1.1) /\ ((g.3.1.2 = g.3.1.2) /\ ((g.3.1.3 = g.3.1.3) /\
  ((g.3.1.4 = g.3.1.4) /\ ((0 = 0) /\ ((List.length g.3.2 = List.length g.3.2) /\ ((g.3.1.5 = g.3.1.5) /\ ((g.3.1.6 = g.3.1.6) /\ ((0 = 0) /\ ((List.length g.3.3 =
  List.length g.3.3) /\ ((g.3.1.7 = g.3.1.7) /\ ((g.3.1.8 = g.3.1.8) /\ ((g.3.1.9 = g.3.1.9) /\ ((g.3.1.10 = g.3.1.10) /\ ((g.3.4 = g.3.4) /\ ((g.3.5 = g.3.5) /\ ((g.3.6 =
  g.3.6) /\ ((g.3.7 = g.3.7) /\ True))))))))))))))))))))))); let z2 := (List.length (setNw g.1.3 g.1.6 (↑g.2 : Int)) = List.length g.1.3); let z3 := (if g.1.6 = (-1 : Int)
  then (↑g.2 : Int) else g.1.7); (br (g.1.6 != (-1 : Int)) (br (decide ((0 : Int) <= g.1.6 /\ g.1.6 < (↑(List.length g.1.3) : Int))) (br (decide (0 + Int.toNat g.1.6 * 16 +
  14 + 1 <= List.length (gC ndC g.1.3))) ((Value.slice (some (Addr.mk 7 0 none)) (List.length g.1.3) 16 = Value.slice (some (Addr.mk 7 0 none)) (List.length g.1.3) 16) /\
  ((Value.int IntKind.i64 g.1.6 = Value.int IntKind.i64 g.1.6) /\ (∃ y : Unit, ((True) /\ ((0 = 0) /\ ((0 = 0) /\ (((↑g.2 : Int) = (↑g.2 : Int)) /\ ((g.1.1 = g.1.1) /\
  ((g.1.2 = g.1.2) /\ ((0 = 0) /\ (z2 /\ ((0 = 0) /\ ((g.1.5 = g.1.5) /\ ((g.1.6 = g.1.6) /\ ((z3 = g.1.7) /\ ((Eq (α := List Value) (gC ndC (setNw g.1.3 g.1.6 (↑g.2 :
  Int))) (ovr (gC ndC g.1.3) (0 + Int.toNat g.1.6 * 16 + 14) [Value.int IntKind.i64 (↑g.2 : Int)])) /\ z1)))))))))))))))) False) False) (∃ y : Unit, ((True) /\ ((0 = 0) /\
  ((0 = 0) /\ (((↑g.2 : Int) = (↑g.2 : Int)) /\ ((g.1.1 = g.1.1) /\ ((g.1.2 = g.1.2) /\ ((0 = 0) /\ (z2 /\ ((0 = 0) /\ ((g.1.5 = g.1.5) /\ ((g.1.6 = g.1.6) /\ ((z3 = (↑g.2 :
  Int)) /\ ((Eq (α := List Value) (gC ndC (setNw g.1.3 g.1.6 (↑g.2 : Int))) (gC ndC g.1.3)) /\ z1))))))))))))))) := by kernel_rfl
theorem Ado_vc (s s' : SS) (n : Nd) : mcall ERm mAdo 100 36 [.pointer (some ⟨0, 0, none⟩), .agg ⟨ndO n 1 2⟩] ⟨mkR (nums 0 [ssR s 3 4 5, gOwn enF n.e, gOwn enF n.r, gOwn ndC s.nd, iOwn .i64 s.fr, mpR s.m]), 6⟩ (retIsM 6 (.tuple #[]) 7 (rwTo s' 6)) =
  let z1 := (Value.int IntKind.i64 s.6 = Value.int IntKind.i64 s.6); (z1 /\ (z1 /\ (∃ g : GP, ((preP g) /\ ((0 = 0) /\ ((0 = 0) /\ (((↑g.2 : Int) = Int.ofNat (List.length
  s.3)) /\ ((g.1.1 = s.1) /\ ((g.1.2 = s.2) /\ ((0 = 0) /\ ((List.length g.1.3 = List.length s.3) /\ ((0 = 0) /\ ((g.1.5 = s.5) /\ ((g.1.6 = s.6) /\ ((g.1.7 = s.7) /\ ((Eq
  (α := List Value) (gC ndC g.1.3) (gC ndC s.3)) /\ ((Plain (gC ndC g.1.3)) /\ ((Eq (α := List Value) (iCells IntKind.i64 g.1.4) (iCells IntKind.i64 s.4)) /\ ((Plain (iCells
  IntKind.i64 g.1.4)) /\ ((Eq (α := List Value) (mC g.1.8) (mC s.8)) /\ ((Plain (mC g.1.8)) /\ ((g.3.1.1 = n.1.1) /\ ((g.3.1.2 = n.1.2) /\ ((g.3.1.3 = n.1.3) /\ ((g.3.1.4 =
  n.1.4) /\ ((0 = 0) /\ ((List.length g.3.2 = List.length n.2) /\ ((g.3.1.5 = n.1.5) /\ ((g.3.1.6 = n.1.6) /\ ((0 = 0) /\ ((List.length g.3.3 = List.length n.3) /\ ((g.3.1.7
  = n.1.7) /\ ((g.3.1.8 = n.1.8) /\ ((g.3.1.9 = n.1.9) /\ ((g.3.1.10 = n.1.10) /\ ((g.3.4 = n.4) /\ ((g.3.5 = n.5) /\ ((g.3.6 = (-1 : Int)) /\ ((g.3.7 = s.6) /\ ((Eq (α :=
  List Value) (gC enF g.3.2) (gC enF n.2)) /\ ((Plain (gC enF g.3.2)) /\ ((Eq (α := List Value) (gC enF g.3.3) (gC enF n.3)) /\ ((Plain (gC enF g.3.3)) /\ (∀ (y : Unit),
  ((True) → (∃ g2 : GP, ((ndLk g2.1.3 g2.1.6) /\ ((0 = 0) /\ ((0 = 0) /\ (((↑g2.2 : Int) = (↑(adI (GP.s g)) : Int)) /\ ((g2.1.1 = g.1.1) /\ ((g2.1.2 = g.1.2) /\ ((0 = 0) /\
  ((List.length g2.1.3 = List.length (if g.1.5 = 0 then g.1.3 ++ [GP.n g] else List.modify g.1.3 (adI (GP.s g)) fun x ↦ GP.n g)) /\ ((0 = 0) /\ ((g2.1.5 = g.1.5 - 1) /\
  ((g2.1.6 = g.1.6) /\ ((g2.1.7 = g.1.7) /\ ((Eq (α := List Value) (gC ndC g2.1.3) (gC ndC (if g.1.5 = 0 then g.1.3 ++ [GP.n g] else List.modify g.1.3 (adI (GP.s g)) fun x ↦
  GP.n g))) /\ ((Plain (gC ndC g2.1.3)) /\ ((Eq (α := List Value) (iCells IntKind.i64 g2.1.4) (iCells IntKind.i64 g.1.4)) /\ ((Plain (iCells IntKind.i64 g2.1.4)) /\ ((Eq (α
  := List Value) (mC g2.1.8) (mC g.1.8)) /\ ((Plain (mC g2.1.8)) /\ ((g2.3.1.1 = g.3.1.1) /\ ((g2.3.1.2 = g.3.1.2) /\ ((g2.3.1.3 = g.3.1.3) /\ ((g2.3.1.4 = g.3.1.4) /\ ((0 =
  0) /\ ((List.length g2.3.2 = List.length g.3.2) /\ ((g2.3.1.5 = g.3.1.5) /\ ((g2.3.1.6 = g.3.1.6) /\ ((0 = 0) /\ ((List.length g2.3.3 = List.length g.3.3) /\ ((g2.3.1.7 =
  g.3.1.7) /\ ((g2.3.1.8 = g.3.1.8) /\ ((g2.3.1.9 = g.3.1.9) /\ ((g2.3.1.10 = g.3.1.10) /\ ((g2.3.4 = g.3.4) /\ ((g2.3.5 = g.3.5) /\ ((g2.3.6 = g.3.6) /\ ((g2.3.7 = g.3.7)
  /\ (∀ (y2 : Unit), ((True) → ((Value.int IntKind.i64 g2.1.2 = Value.int IntKind.i64 g2.1.2) /\ ((Value.int IntKind.i64 g2.3.5 = Value.int IntKind.i64 g2.3.5) /\ ((MKeys
  (mC g2.1.8) (Value.string g2.3.4)) /\ ((IsOne (mpOne (mC g2.1.8) (Value.string g2.3.4)) (Value.slice (some (Addr.mk (cellZ (mpOne (mC g2.1.8) (Value.string g2.3.4)) 0)
  (cellO (mpOne (mC g2.1.8) (Value.string g2.3.4)) 0) (some 0))) (cellN (mpOne (mC g2.1.8) (Value.string g2.3.4)) 0) 1)) /\ (br (decide (cellO (mpOne (mC g2.1.8)
  (Value.string g2.3.4)) 0 + cellN (mpOne (mC g2.1.8) (Value.string g2.3.4)) 0 * 1 <= List.length (gCells (cellZ (mpOne (mC g2.1.8) (Value.string g2.3.4)) 0)))) (br (allOne
  (List.take (cellN (mpOne (mC g2.1.8) (Value.string g2.3.4)) 0 * 1) (List.drop (cellO (mpOne (mC g2.1.8) (Value.string g2.3.4)) 0) (gCells (cellZ (mpOne (mC g2.1.8)
  (Value.string g2.3.4)) 0))))) (br (decide (1 + cellN (mpOne (mC g2.1.8) (Value.string g2.3.4)) 0 <= 16777216)) (br (decide (0 + (1 + cellN (mpOne (mC g2.1.8) (Value.string
  g2.3.4)) 0) * 1 <= List.length (Value.int IntKind.i64 (↑g2.2 : Int) :: ([] ++ List.take (cellN (mpOne (mC g2.1.8) (Value.string g2.3.4)) 0 * 1) (List.drop (cellO (mpOne
  (mC g2.1.8) (Value.string g2.3.4)) 0) (gCells (cellZ (mpOne (mC g2.1.8) (Value.string g2.3.4)) 0))))))) ((gAll (shown (Value.int IntKind.i64 (↑g2.2 : Int) :: ([] ++
  List.take (cellN (mpOne (mC g2.1.8) (Value.string g2.3.4)) 0 * 1) (List.drop (cellO (mpOne (mC g2.1.8) (Value.string g2.3.4)) 0) (gCells (cellZ (mpOne (mC g2.1.8)
  (Value.string g2.3.4)) 0))))) 0 (1 + cellN (mpOne (mC g2.1.8) (Value.string g2.3.4)) 0) 1) = true) /\ ((MKeys (mC g2.1.8) (Value.string g2.3.4)) /\ ((Value.map (some 5) =
  Value.map (some 5)) /\ ((Value.map (some 5) = Value.map (some 5)) /\ ((Value.string g2.3.4 = Value.string g2.3.4) /\ ((Value.string g2.3.4 = Value.string g2.3.4) /\
  ((Value.map (some 5) = Value.map (some 5)) /\ ((Value.string g2.3.4 = Value.string g2.3.4) /\ ((MKeys (mC g2.1.8) (Value.string g2.3.4)) /\ ((IsOne (mpOne (mC g2.1.8)
  (Value.string g2.3.4)) (Value.slice (some (Addr.mk (cellZ (mpOne (mC g2.1.8) (Value.string g2.3.4)) 0) (cellO (mpOne (mC g2.1.8) (Value.string g2.3.4)) 0) (some 0)))
  (cellN (mpOne (mC g2.1.8) (Value.string g2.3.4)) 0) 1)) /\ ((Value.slice (some (Addr.mk (cellZ (mpOne (mC g2.1.8) (Value.string g2.3.4)) 0) (cellO (mpOne (mC g2.1.8)
  (Value.string g2.3.4)) 0) (some 0))) (cellN (mpOne (mC g2.1.8) (Value.string g2.3.4)) 0) 1 = Value.slice (some (Addr.mk (cellZ (mpOne (mC g2.1.8) (Value.string g2.3.4)) 0)
  (cellO (mpOne (mC g2.1.8) (Value.string g2.3.4)) 0) (some 0))) (cellN (mpOne (mC g2.1.8) (Value.string g2.3.4)) 0) 1) /\ ((s'.1 = g2.1.1) /\ ((s'.2 = IntKind.wrap
  IntKind.i64 (g2.1.2 + g2.3.5)) /\ ((0 = 0) /\ ((List.length s'.3 = List.length (setNw g2.1.3 g2.1.6 (↑g2.2 : Int))) /\ ((0 = 0) /\ ((s'.5 = g2.1.5) /\ ((s'.6 = (↑g2.2 :
  Int)) /\ ((s'.7 = if g2.1.6 = (-1 : Int) then (↑g2.2 : Int) else g2.1.7) /\ ((Eq (α := List Value) (gC ndC s'.3) (gC ndC (setNw g2.1.3 g2.1.6 (↑g2.2 : Int)))) /\ ((Plain
  (gC ndC s'.3)) /\ ((Eq (α := List Value) (iCells IntKind.i64 s'.4) (iCells IntKind.i64 g2.1.4)) /\ ((Plain (iCells IntKind.i64 s'.4)) /\ ((Eq (α := List Value) (mC s'.8)
  (mpPut (mC g2.1.8) (Value.string g2.3.4) (Value.slice (some (Addr.mk (gCode (shown (Value.int IntKind.i64 (↑g2.2 : Int) :: ([] ++ List.take (cellN (mpOne (mC g2.1.8)
  (Value.string g2.3.4)) 0 * 1) (List.drop (cellO (mpOne (mC g2.1.8) (Value.string g2.3.4)) 0) (gCells (cellZ (mpOne (mC g2.1.8) (Value.string g2.3.4)) 0))))) 0 (1 + cellN
  (mpOne (mC g2.1.8) (Value.string g2.3.4)) 0) 1)) 0 (some 0))) (1 + cellN (mpOne (mC g2.1.8) (Value.string g2.3.4)) 0) 1))) /\ ((Plain (mC s'.8)) /\
  True))))))))))))))))))))))))) False) False) False) False))))))))))))))))))))))))))))))))))))))))))))))))))))))))))))))))))))))))))))))))))))))))) := by kernel_rfl
theorem brTT (X Y : Prop) : br true X Y = X := rfl
theorem Po_piece : PieceOk ERm 6 (36, pP, specPo) := by
  refine piece_code mixed (calls_envT all_nil) (lok_envT _ _) lm_none (n := 100) (fun g hg => ?_)
  refine (Po_round g).mpr ?_
  obtain ⟨s, i, n⟩ := g
  obtain ⟨g1, g2, g3, g4, g5⟩ := hg
  simp only at g1 g2 g3 g4 g5
  simp only [Nat.zero_add, Nat.mul_one, nLen, nPl, mC_plain, iCells_plain, iCells_len, and_true, true_and, exists_const]
  have shF : ∀ l : List Fl, shown (gC enF l) 0 l.length 2 = gC enF l := fun l => by unfold shown; rw [List.drop_zero, List.take_of_length_le (by rw [fLen]; exact Nat.le_refl _)]
  simp only [fLen, shF, gAll_F, Nat.le_refl, decide_true, brTT, true_and]
  have e16 : ∀ v : Nd, [Value.string v.x.m, Value.string v.x.s, Value.string v.x.a, Value.string v.x.p, Value.slice (some { block := gCode (gC enF v.e), off := 0, spot := some 0 }) v.e.length 2, Value.int IntKind.i64 v.x.k, Value.int IntKind.i64 v.x.st, Value.slice (some { block := gCode (gC enF v.r), off := 0, spot := some 0 }) v.r.length 2, Value.int IntKind.i64 v.x.k2, Value.string v.x.body, Value.int IntKind.i64 v.x.asked, Value.int IntKind.i64 v.x.came, Value.string v.key, Value.int IntKind.i64 v.cost, Value.int IntKind.i64 v.nw, Value.int IntKind.i64 v.ol] = ndC v := fun _ => rfl
  rw [e16]
  have wz : IntKind.i64.wrap (Int.ofNat s.fn - 1) = (s.fn : Int) - 1 := wr64_id (by unfold I64; simp only [Int.ofNat_eq_natCast]; omega)
  rw [wz]
  by_cases h0 : s.fn = 0
  · refine br_nd (by omega) (br_dec (by omega) ⟨?_, ?_, by omega, ?_⟩)
    · unfold adI; rw [if_pos h0, g1]
    · rw [if_pos h0, List.length_append]; rfl
    · rw [if_pos h0, List.drop_zero, List.take_of_length_le (by rw [nLen]; exact Nat.le_refl _), ← gC_app]; simp [gC]
  · have ht : ((s.fn : Int) - 1).toNat = s.fn - 1 := by omega
    have hlt : s.fn - 1 < s.fr.length := by omega
    have c1 := iCells_get (k := .i64) hlt
    have c2 := iCells_cell (k := .i64) hlt
    obtain ⟨q1, q2⟩ := g5 (by omega)
    rw [ht, c1, c2]
    have ha : adI s = (s.fr.getD (s.fn - 1) 0).toNat := by unfold adI; rw [if_neg h0]
    rw [ha, if_neg h0]
    generalize s.fr.getD (s.fn - 1) 0 = x at *
    refine br_dec (by omega) (br_dec (by omega) ⟨rfl, br_dec (by omega) ⟨rfl, br_dec (by omega) (br_dec ⟨q1, q2⟩ (br_dec (by omega) ⟨by omega, by simp, by omega, ?_⟩))⟩⟩)
    rw [← set_mod]
    exact (gC_set ndC_len s.nd x.toNat n (by omega)).symm
theorem Qo_piece : PieceOk ERm 6 (36, pQ, specQo) := by
  refine piece_code mixed (calls_envT all_nil) (lok_envT _ _) lm_none (n := 100) (fun g hg => ?_)
  refine (Qo_round g).mpr ?_
  obtain ⟨s, i, n⟩ := g
  simp only at hg
  simp only [Nat.zero_add, Nat.mul_one, nLen, nPl, mC_plain, iCells_plain, iCells_len, and_true, true_and, exists_const]
  unfold setNw
  rcases hg with h | ⟨h1, h2⟩
  · exact br_nb (by simp [h]) (by simp [h])
  · have hne : ¬ s.nw = -1 := by omega
    have e := ovr_nw s.nd s.nw.toNat (i : Int) (by omega)
    rw [e]
    simp only [if_neg hne]
    exact br_b (by simp [hne]) (br_dec ⟨h1, h2⟩ (br_dec (by omega) (by simp)))
theorem Ado_con (s : SS) (n : Nd) (hp : preP ⟨s, s.nd.length, n⟩) (h2 : ndLk s.nd s.nw) (hl : (mget s.m n.key).length ≤ 1000000) (hz : I64 (s.siz + n.cost)) :
    ConM Try.prog 36 [.pointer (some ⟨0, 0, none⟩), .agg ⟨ndO n 1 2⟩] [ssR s 3 4 5, gOwn enF n.e, gOwn enF n.r, gOwn ndC s.nd, iOwn .i64 s.fr, mpR s.m] (.tuple #[]) 7 (rwTo (adS s n) 6) := by
  refine conM_vc (E := ERm) mixed (calls_envT all_nil) (lok_envT _ _) (M := mAdo) (lm_two Po_piece Qo_piece) (Ado_vc s _ n) ?_
  have gi := mC_gi n.key s.m
  simp only [Nat.zero_add, Nat.add_zero, Nat.mul_one, Int.toNat_natCast, nPl, fPl, mC_plain, iCells_plain, iCells_len, mC_keysS, mC_isone, true_and, and_true, forall_const]
  refine ⟨⟨s, s.nd.length, { n with nw := -1, ol := s.nw }⟩, hp, ?_⟩
  repeat (refine ⟨rfl, ?_⟩)
  refine ⟨⟨stP s { n with nw := -1, ol := s.nw }, adI s, { n with nw := -1, ol := s.nw }⟩, ?_, ?_⟩
  · show ndLk (if s.fn = 0 then _ else _) s.nw
    unfold ndLk at h2 ⊢
    split
    · rw [List.length_append]; simp only [List.length_cons, List.length_nil]; omega
    · rw [List.length_modify]; exact h2
  repeat (refine ⟨rfl, ?_⟩)
  dsimp only [stP]
  simp only [List.nil_append]
  have hone : ∀ l : List Int, allOne (iCells .i64 l) = true := fun l => iCells_one _ l
  obtain ⟨q1, q2, q3⟩ := gi
  have hgi : GI (cellZ (mpOne (mC s.m) (Value.string n.key)) 0) (cellO (mpOne (mC s.m) (Value.string n.key)) 0) (cellN (mpOne (mC s.m) (Value.string n.key)) 0) (mget s.m n.key) := ⟨q1, q2, q3⟩
  rw [shownC _ _ _ _ _ hgi]
  have e2 : (Value.int .i64 ((adI s : Nat) : Int) :: iCells .i64 (mget s.m n.key)) = iCells .i64 (((adI s : Nat) : Int) :: mget s.m n.key) := rfl
  refine br_dec q1 (br_b (by rw [q2]; exact hone _) (br_dec (by omega) (br_dec (by rw [List.length_cons, q2, iCells_len]; omega) ⟨?_, ?_⟩)))
  · rw [q2, e2, show 1 + cellN (mpOne (mC s.m) (Value.string n.key)) 0 = (((adI s : Nat) : Int) :: mget s.m n.key).length by rw [q3, List.length_cons]; omega, shownI]
    exact gAll_I _
  rw [mC_put]
  have ea : adS s n = ⟨s.bud, s.siz + n.cost, setNw (if s.fn = 0 then s.nd ++ [{ x := n.x, e := n.e, r := n.r, key := n.key, cost := n.cost, nw := -1, ol := s.nw }] else s.nd.modify (adI s) fun x => { x := n.x, e := n.e, r := n.r, key := n.key, cost := n.cost, nw := -1, ol := s.nw }) s.nw ((adI s : Nat) : Int), s.fr, s.fn - 1, ((adI s : Nat) : Int), if s.nw = -1 then ((adI s : Nat) : Int) else s.ol, mset s.m n.key (((adI s : Nat) : Int) :: mget s.m n.key)⟩ := by
    unfold adS adN setNw; rfl
  rw [ea]
  simp only [wr64_id hz, true_and, and_true]
  rfl
end Go.Proofs.Ytcjbpmphkmcmjaa.so
