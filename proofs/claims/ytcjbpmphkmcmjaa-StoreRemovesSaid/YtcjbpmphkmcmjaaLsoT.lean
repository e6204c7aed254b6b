/- The store: all entries of a key are taken out. -/
import Derived.Test.YtcjbpmphkmcmjaaSz9
import Derived.Test.YtcjbpmphkmcmjaaRows
import Derived.Test.YtcjbpmphkmcmjaaLsoQ
set_option maxRecDepth 20000
set_option linter.unusedSimpArgs false
set_option linter.unusedVariables false
namespace Go.Proofs.Ytcjbpmphkmcmjaa.so
open Go Go.Ev Go.Sy Go.RowKit Go.Proofs.Ytcjbpmphkmcmjaa.gl Go.Proofs.Ytcjbpmphkmcmjaa.tk Go.Proofs.Ytcjbpmphkmcmjaa.cp Go.Proofs.Ytcjbpmphkmcmjaa.ic
def prT : Nd → Bool := fun _ => true
noncomputable def tDt : List EntM := [eRm]
noncomputable abbrev EDt : Env := envT Try.prog tDt
structure GDt where
  s : SS
  l : List Int
def fnT : Value := .func (.func 48) #[] #[]
def slDt (g : GDt) (j : Nat) : List (Nat × Value) := [(0, .pointer (some ⟨0, 0, none⟩)), (2, fnT), (14, .slice (some ⟨4, 0, none⟩) g.l.length 1), (15, .int .i64 (g.l.length : Nat)), (16, .int .i64 (j : Nat))]
noncomputable def rwDt (s : SS) : List (Nat × Row) := [(0, ssR s 1 5 3), (1, gOwn ndC s.nd), (5, iOwn .i64 s.fr), (3, mpR s.m)]
noncomputable def rlDt (g : GDt) (s : SS) : List (Nat × Row) := rwDt s ++ [(4, iOwn .i64 g.l)]
noncomputable def wsDt (g : GDt) : List (Gate Unit) := [⟨.exit 0, fun _ => True, fun _ => [], fun _ => rwDt (drS prT g.s g.l), 6⟩]
noncomputable def specDt : Sy.Spec := specOf 4 6 34 (fun g : GDt => DrOk g.s g.l ∧ g.l.length ≤ 1000) (fun g => slDt g 0) (fun g => rlDt g g.s) wsDt
noncomputable def mDt := mOf [(32, pDr, specDt)]
noncomputable def dtSiz : Int → Int → Int → Int → Nat → Row → Row → Row → ByteArray → Int := sealV fun bud siz nw ol fn r1 r2 r3 K => (drS prT (sOf bud siz nw ol fn r1 r2 r3) (mget (dMp r3) K)).siz
noncomputable def dtNw : Int → Int → Int → Int → Nat → Row → Row → Row → ByteArray → Int := sealV fun bud siz nw ol fn r1 r2 r3 K => (drS prT (sOf bud siz nw ol fn r1 r2 r3) (mget (dMp r3) K)).nw
noncomputable def dtOl : Int → Int → Int → Int → Nat → Row → Row → Row → ByteArray → Int := sealV fun bud siz nw ol fn r1 r2 r3 K => (drS prT (sOf bud siz nw ol fn r1 r2 r3) (mget (dMp r3) K)).ol
noncomputable def dtFn : Int → Int → Int → Int → Nat → Row → Row → Row → ByteArray → Nat := sealV fun bud siz nw ol fn r1 r2 r3 K => (drS prT (sOf bud siz nw ol fn r1 r2 r3) (mget (dMp r3) K)).fn
noncomputable def dtNd : Int → Int → Int → Int → Nat → Row → Row → Row → ByteArray → List Value := sealV fun bud siz nw ol fn r1 r2 r3 K => gC ndC (drS prT (sOf bud siz nw ol fn r1 r2 r3) (mget (dMp r3) K)).nd
noncomputable def dtFr : Int → Int → Int → Int → Nat → Row → Row → Row → ByteArray → List Value := sealV fun bud siz nw ol fn r1 r2 r3 K => iCells .i64 (drS prT (sOf bud siz nw ol fn r1 r2 r3) (mget (dMp r3) K)).fr
noncomputable def dtMc : Int → Int → Int → Int → Nat → Row → Row → Row → ByteArray → List Value := sealV fun bud siz nw ol fn r1 r2 r3 K => mC (drS prT (sOf bud siz nw ol fn r1 r2 r3) (mget (dMp r3) K)).m
noncomputable def eDt : EntM := (32, fun a r => match a, r with
  | [.pointer (some ⟨0, 0, none⟩), .string K, .func (.func F) ⟨[]⟩ ⟨[]⟩], [⟨[.int .i64 bud, .int .i64 siz, .slice (some ⟨1, 0, none⟩) n 16, .slice (some ⟨2, 0, none⟩) fn 1, .int .i64 nw, .int .i64 ol, .map (some 3)], false, .cells false⟩, r1, r2, r3] =>
    bif Nat.beq F 48 then some (PDr bud siz nw ol fn n r1 r2 r3, .tuple #[], 5, [(0, ⟨[.int .i64 bud, .int .i64 (dtSiz bud siz nw ol fn r1 r2 r3 K), .slice (some ⟨1, 0, none⟩) n 16, .slice (some ⟨4, 0, none⟩) (dtFn bud siz nw ol fn r1 r2 r3 K) 1, .int .i64 (dtNw bud siz nw ol fn r1 r2 r3 K), .int .i64 (dtOl bud siz nw ol fn r1 r2 r3 K), .map (some 3)], false, .cells false⟩), (1, ⟨dtNd bud siz nw ol fn r1 r2 r3 K, false, .cells true⟩), (4, ⟨dtFr bud siz nw ol fn r1 r2 r3 K, false, .cells true⟩), (3, ⟨dtMc bud siz nw ol fn r1 r2 r3 K, false, .map true⟩)]) else none
  | _, _ => none)
noncomputable def tRv : List EntM := [eDt]
noncomputable abbrev ERv : Env := envT Try.prog tRv
def rvN (s : SS) (K : ByteArray) : Int := ((s.nd.length : Int) - s.fn) - ((s.nd.length : Int) - (drS prT s (mget s.m K)).fn)
noncomputable def rvV : Int → Int → Int → Int → Nat → Row → Row → Row → Nat → ByteArray → Int := sealV fun bud siz nw ol fn r1 r2 r3 n K => ((n : Int) - fn) - ((n : Int) - (drS prT (sOf bud siz nw ol fn r1 r2 r3) (mget (dMp r3) K)).fn)
noncomputable def eRv : EntM := (25, fun a r => match a, r with
  | [.pointer (some ⟨0, 0, none⟩), .string K], [⟨[.int .i64 bud, .int .i64 siz, .slice (some ⟨1, 0, none⟩) n 16, .slice (some ⟨2, 0, none⟩) fn 1, .int .i64 nw, .int .i64 ol, .map (some 3)], false, .cells false⟩, r1, r2, r3] =>
    some (PDr bud siz nw ol fn n r1 r2 r3, .int .i64 (rvV bud siz nw ol fn r1 r2 r3 n K), 5, [(0, ⟨[.int .i64 bud, .int .i64 (dtSiz bud siz nw ol fn r1 r2 r3 K), .slice (some ⟨1, 0, none⟩) n 16, .slice (some ⟨4, 0, none⟩) (dtFn bud siz nw ol fn r1 r2 r3 K) 1, .int .i64 (dtNw bud siz nw ol fn r1 r2 r3 K), .int .i64 (dtOl bud siz nw ol fn r1 r2 r3 K), .map (some 3)], false, .cells false⟩), (1, ⟨dtNd bud siz nw ol fn r1 r2 r3 K, false, .cells true⟩), (4, ⟨dtFr bud siz nw ol fn r1 r2 r3 K, false, .cells true⟩), (3, ⟨dtMc bud siz nw ol fn r1 r2 r3 K, false, .map true⟩)])
  | _, _ => none)
theorem Dt_round (g : GDt) (t : SDr) (Inv : SDr → Prop) (m : SDr → Nat) : mev EDt noM 100 32 (0 :: pDr) false (codeOf Try.prog 32 (0 :: pDr)) ⟨mkOv (slDt g t.j), 34, []⟩ none ⟨mkR (rlDt g t.s), 6⟩ (roundK 4 6 34 Inv m (fun t : SDr => slDt g t.j) (fun t => rlDt g t.s) (wsDt g) t) =
  let z1 := (cellI (iCells IntKind.i64 g.2) (0 + Int.toNat (↑t.2 : Int) * 1)); let z2 := (Row.mk (iCells IntKind.i64 t.1.4) false (Ob.cells true)); let z3 := (Row.mk (gC ndC
  t.1.3) false (Ob.cells true)); let z4 := (0 + Int.toNat z1 * 16 + 0 + 1 + 1 + 1 + 1 + 1 + 1 + 1); let z5 := (rmNd t.1.1 t.1.2 t.1.6 t.1.7 t.1.5 z3 z2 (Row.mk (mC t.1.8)
  false (Ob.map true)) z1); let z6 := (rmFr t.1.1 t.1.2 t.1.6 t.1.7 t.1.5 z3 z2 (Row.mk (mC t.1.8) false (Ob.map true)) z1); let z7 := (rmMc t.1.1 t.1.2 t.1.6 t.1.7 t.1.5 z3
  z2 (Row.mk (mC t.1.8) false (Ob.map true)) z1); let z8 := (iCells IntKind.i64 (drS prT (GDt.s g) g.2).4); (br (decide ((↑t.2 : Int) < (↑(List.length g.2) : Int))) (br
  (decide ((0 : Int) <= (↑t.2 : Int) /\ (↑t.2 : Int) < (↑(List.length g.2) : Int))) ((Eq (α := Option Value) ((iCells IntKind.i64 g.2)[0 + Int.toNat (↑t.2 : Int) * 1]?)
  (some (Value.int IntKind.i64 z1))) /\ (br (decide ((0 : Int) <= cellI (iCells IntKind.i64 g.2) (0 + Int.toNat (↑t.2 : Int) * 1) /\ cellI (iCells IntKind.i64 g.2) (0 +
  Int.toNat (↑t.2 : Int) * 1) < (↑(List.length t.1.3) : Int))) ((Eq (α := Option Value) ((gC ndC t.1.3)[0 + Int.toNat z1 * 16 + 0]?) (some (Value.string (cellS (gC ndC
  t.1.3) (0 + Int.toNat z1 * 16 + 0))))) /\ ((Eq (α := Option Value) ((gC ndC t.1.3)[0 + Int.toNat z1 * 16 + 0 + 1]?) (some (Value.string (cellS (gC ndC t.1.3) (0 +
  Int.toNat z1 * 16 + 0 + 1))))) /\ ((Eq (α := Option Value) ((gC ndC t.1.3)[0 + Int.toNat z1 * 16 + 0 + 1 + 1]?) (some (Value.string (cellS (gC ndC t.1.3) (0 + Int.toNat z1
  * 16 + 0 + 1 + 1))))) /\ ((Eq (α := Option Value) ((gC ndC t.1.3)[0 + Int.toNat z1 * 16 + 0 + 1 + 1 + 1]?) (some (Value.string (cellS (gC ndC t.1.3) (0 + Int.toNat z1 * 16
  + 0 + 1 + 1 + 1))))) /\ ((Eq (α := Option Value) ((gC ndC t.1.3)[0 + Int.toNat z1 * 16 + 0 + 1 + 1 + 1 + 1]?) (some (Value.slice (some (Addr.mk (cellZ (gC ndC t.1.3) (0 +
  Int.toNat z1 * 16 + 0 + 1 + 1 + 1 + 1)) (cellO (gC ndC t.1.3) (0 + Int.toNat z1 * 16 + 0 + 1 + 1 + 1 + 1)) (some 0))) (cellN (gC ndC t.1.3) (0 + Int.toNat z1 * 16 + 0 + 1
  + 1 + 1 + 1)) 2))) /\ ((Eq (α := Option Value) ((gC ndC t.1.3)[0 + Int.toNat z1 * 16 + 0 + 1 + 1 + 1 + 1 + 1]?) (some (Value.int IntKind.i64 (cellI (gC ndC t.1.3) (0 +
  Int.toNat z1 * 16 + 0 + 1 + 1 + 1 + 1 + 1))))) /\ ((Eq (α := Option Value) ((gC ndC t.1.3)[0 + Int.toNat z1 * 16 + 0 + 1 + 1 + 1 + 1 + 1 + 1]?) (some (Value.int
  IntKind.i64 (cellI (gC ndC t.1.3) (0 + Int.toNat z1 * 16 + 0 + 1 + 1 + 1 + 1 + 1 + 1))))) /\ ((Eq (α := Option Value) ((gC ndC t.1.3)[0 + Int.toNat z1 * 16 + 0 + 1 + 1 + 1
  + 1 + 1 + 1 + 1]?) (some (Value.slice (some (Addr.mk (cellZ (gC ndC t.1.3) z4) (cellO (gC ndC t.1.3) z4) (some 0))) (cellN (gC ndC t.1.3) z4) 2))) /\ ((Eq (α := Option
  Value) ((gC ndC t.1.3)[0 + Int.toNat z1 * 16 + 0 + 1 + 1 + 1 + 1 + 1 + 1 + 1 + 1]?) (some (Value.int IntKind.i64 (cellI (gC ndC t.1.3) (0 + Int.toNat z1 * 16 + 0 + 1 + 1 +
  1 + 1 + 1 + 1 + 1 + 1))))) /\ ((Eq (α := Option Value) ((gC ndC t.1.3)[0 + Int.toNat z1 * 16 + 0 + 1 + 1 + 1 + 1 + 1 + 1 + 1 + 1 + 1]?) (some (Value.string (cellS (gC ndC
  t.1.3) (0 + Int.toNat z1 * 16 + 0 + 1 + 1 + 1 + 1 + 1 + 1 + 1 + 1 + 1))))) /\ ((Eq (α := Option Value) ((gC ndC t.1.3)[0 + Int.toNat z1 * 16 + 0 + 1 + 1 + 1 + 1 + 1 + 1 +
  1 + 1 + 1 + 1]?) (some (Value.int IntKind.i64 (cellI (gC ndC t.1.3) (0 + Int.toNat z1 * 16 + 0 + 1 + 1 + 1 + 1 + 1 + 1 + 1 + 1 + 1 + 1))))) /\ ((Eq (α := Option Value)
  ((gC ndC t.1.3)[0 + Int.toNat z1 * 16 + 0 + 1 + 1 + 1 + 1 + 1 + 1 + 1 + 1 + 1 + 1 + 1]?) (some (Value.int IntKind.i64 (cellI (gC ndC t.1.3) (0 + Int.toNat z1 * 16 + 0 + 1
  + 1 + 1 + 1 + 1 + 1 + 1 + 1 + 1 + 1 + 1))))) /\ ((((True /\ (True /\ True)) /\ (((True /\ (True /\ (True /\ (True /\ (True /\ (True /\ (True /\ True))))))) /\ (Plain (gC
  ndC t.1.3) /\ (Plain (iCells IntKind.i64 t.1.4) /\ (Plain (mC t.1.8) /\ True)))) /\ ((Plain z5 /\ (Plain z6 /\ (Plain z7 /\ True))) /\ PRm t.1.1 t.1.2 t.1.6 t.1.7 t.1.5
  (List.length t.1.3) z3 z2 (Row.mk (mC t.1.8) false (Ob.map true)) z1)))) /\ (∃ j : SDr, ((Inv j) /\ ((m j < m t) /\ ((0 = 0) /\ ((0 = 0) /\ ((List.length g.2 = List.length
  g.2) /\ (((↑(List.length g.2) : Int) = (↑(List.length g.2) : Int)) /\ (((↑j.2 : Int) = IntKind.wrap IntKind.i64 ((↑t.2 : Int) + (1 : Int))) /\ ((j.1.1 = t.1.1) /\ ((j.1.2
  = rmSiz t.1.1 t.1.2 t.1.6 t.1.7 t.1.5 z3 z2 (Row.mk (mC t.1.8) false (Ob.map true)) z1) /\ ((0 = 0) /\ ((List.length j.1.3 = List.length t.1.3) /\ ((0 = 0) /\ ((j.1.5 =
  t.1.5 + 1) /\ ((j.1.6 = rmNw t.1.1 t.1.2 t.1.6 t.1.7 t.1.5 z3 z2 (Row.mk (mC t.1.8) false (Ob.map true)) z1) /\ ((j.1.7 = rmOl t.1.1 t.1.2 t.1.6 t.1.7 t.1.5 z3 z2 (Row.mk
  (mC t.1.8) false (Ob.map true)) z1) /\ ((Eq (α := List Value) (gC ndC j.1.3) z5) /\ ((Plain (gC ndC j.1.3)) /\ ((Eq (α := List Value) (iCells IntKind.i64 j.1.4) z6) /\
  ((Plain (iCells IntKind.i64 j.1.4)) /\ ((Eq (α := List Value) (mC j.1.8) z7) /\ ((Plain (mC j.1.8)) /\ ((Eq (α := List Value) (iCells IntKind.i64 g.2) (iCells IntKind.i64
  g.2)) /\ ((Plain (iCells IntKind.i64 g.2)) /\ True))))))))))))))))))))))))))))))))))))) False)) False) (∃ y : Unit, ((True) /\ (((drS prT (GDt.s g) g.2).1 = t.1.1) /\
  (((drS prT (GDt.s g) g.2).2 = t.1.2) /\ ((0 = 0) /\ ((List.length (drS prT (GDt.s g) g.2).3 = List.length t.1.3) /\ ((0 = 0) /\ (((drS prT (GDt.s g) g.2).5 = t.1.5) /\
  (((drS prT (GDt.s g) g.2).6 = t.1.6) /\ (((drS prT (GDt.s g) g.2).7 = t.1.7) /\ ((Eq (α := List Value) (gC ndC (drS prT (GDt.s g) g.2).3) (gC ndC t.1.3)) /\ ((Plain (gC
  ndC (drS prT (GDt.s g) g.2).3)) /\ ((Eq (α := List Value) z8 (iCells IntKind.i64 t.1.4)) /\ ((Plain z8) /\ ((Eq (α := List Value) (mC (drS prT (GDt.s g) g.2).8) (mC
  t.1.8)) /\ ((Plain (mC (drS prT (GDt.s g) g.2).8)) /\ True))))))))))))))))) := by kernel_rfl
theorem Dt_vc (s s' : SS) (K : ByteArray) : mcall EDt mDt 100 32 [.pointer (some ⟨0, 0, none⟩), .string K, fnT] ⟨mkR (nums 0 [ssR s 1 2 3, gOwn ndC s.nd, iOwn .i64 s.fr, mpR s.m]), 4⟩ (retIsM 4 (.tuple #[]) 5 [(0, ssR s' 1 4 3), (1, gOwn ndC s'.nd), (4, iOwn .i64 s'.fr), (3, mpR s'.m)]) =
  let z1 := (List.take (cellN (mpOne (mC s.8) (Value.string K)) 0 * 1) (List.drop (cellO (mpOne (mC s.8) (Value.string K)) 0) (gCells (cellZ (mpOne (mC s.8) (Value.string
  K)) 0)))); ((MKeys (mC s.8) (Value.string K)) /\ ((IsOne (mpOne (mC s.8) (Value.string K)) (Value.slice (some (Addr.mk (cellZ (mpOne (mC s.8) (Value.string K)) 0) (cellO
  (mpOne (mC s.8) (Value.string K)) 0) (some 0))) (cellN (mpOne (mC s.8) (Value.string K)) 0) 1)) /\ (br (decide (cellO (mpOne (mC s.8) (Value.string K)) 0 + cellN (mpOne
  (mC s.8) (Value.string K)) 0 * 1 <= List.length (gCells (cellZ (mpOne (mC s.8) (Value.string K)) 0)))) (br (allOne z1) (br (decide (cellN (mpOne (mC s.8) (Value.string K))
  0 <= 16777216)) (∃ g : GDt, ((DrOk (GDt.s g) g.2 /\ List.length g.2 <= 1000) /\ ((0 = 0) /\ ((0 = 0) /\ ((List.length g.2 = cellN (mpOne (mC s.8) (Value.string K)) 0) /\
  (((↑(List.length g.2) : Int) = Int.ofNat (cellN (mpOne (mC s.8) (Value.string K)) 0)) /\ (((0 : Int) = (0 : Int)) /\ ((g.1.1 = s.1) /\ ((g.1.2 = s.2) /\ ((0 = 0) /\
  ((List.length g.1.3 = List.length s.3) /\ ((0 = 0) /\ ((g.1.5 = s.5) /\ ((g.1.6 = s.6) /\ ((g.1.7 = s.7) /\ ((Eq (α := List Value) (gC ndC g.1.3) (gC ndC s.3)) /\ ((Plain
  (gC ndC g.1.3)) /\ ((Eq (α := List Value) (iCells IntKind.i64 g.1.4) (iCells IntKind.i64 s.4)) /\ ((Plain (iCells IntKind.i64 g.1.4)) /\ ((Eq (α := List Value) (mC g.1.8)
  (mC s.8)) /\ ((Plain (mC g.1.8)) /\ ((Eq (α := List Value) (iCells IntKind.i64 g.2) z1) /\ ((Plain (iCells IntKind.i64 g.2)) /\ (∀ (y : Unit), ((True) → ((s'.1 = (drS prT
  (GDt.s g) g.2).1) /\ ((s'.2 = (drS prT (GDt.s g) g.2).2) /\ ((0 = 0) /\ ((List.length s'.3 = List.length (drS prT (GDt.s g) g.2).3) /\ ((0 = 0) /\ ((s'.5 = (drS prT (GDt.s
  g) g.2).5) /\ ((s'.6 = (drS prT (GDt.s g) g.2).6) /\ ((s'.7 = (drS prT (GDt.s g) g.2).7) /\ ((Eq (α := List Value) (gC ndC s'.3) (gC ndC (drS prT (GDt.s g) g.2).3)) /\
  ((Plain (gC ndC s'.3)) /\ ((Eq (α := List Value) (iCells IntKind.i64 s'.4) (iCells IntKind.i64 (drS prT (GDt.s g) g.2).4)) /\ ((Plain (iCells IntKind.i64 s'.4)) /\ ((Eq (α
  := List Value) (mC s'.8) (mC (drS prT (GDt.s g) g.2).8)) /\ ((Plain (mC s'.8)) /\ True))))))))))))))))))))))))))))))))))))))) False) False) False))) := by kernel_rfl
theorem Rv_vc (s s' : SS) (K : ByteArray) (n : Int) : mcall ERv noM 100 25 [.pointer (some ⟨0, 0, none⟩), .string K] ⟨mkR (nums 0 [ssR s 1 2 3, gOwn ndC s.nd, iOwn .i64 s.fr, mpR s.m]), 4⟩ (retIsM 4 (.int .i64 n) 5 [(0, ssR s' 1 4 3), (1, gOwn ndC s'.nd), (4, iOwn .i64 s'.fr), (3, mpR s'.m)]) =
  let z1 := (Row.mk (iCells IntKind.i64 s.4) false (Ob.cells true)); let z2 := (dtFn s.1 s.2 s.6 s.7 s.5 (Row.mk (gC ndC s.3) false (Ob.cells true)) z1 (Row.mk (mC s.8)
  false (Ob.map true)) K); let z3 := (Value.slice (some (Addr.mk 1 0 none)) (List.length s.3) 16 = Value.slice (some (Addr.mk 1 0 none)) (List.length s.3) 16); let z4 :=
  (dtNd s.1 s.2 s.6 s.7 s.5 (Row.mk (gC ndC s.3) false (Ob.cells true)) z1 (Row.mk (mC s.8) false (Ob.map true)) K); let z5 := (dtFr s.1 s.2 s.6 s.7 s.5 (Row.mk (gC ndC s.3)
  false (Ob.cells true)) z1 (Row.mk (mC s.8) false (Ob.map true)) K); let z6 := (dtMc s.1 s.2 s.6 s.7 s.5 (Row.mk (gC ndC s.3) false (Ob.cells true)) z1 (Row.mk (mC s.8)
  false (Ob.map true)) K); (z3 /\ ((Value.slice (some (Addr.mk 2 0 none)) s.5 1 = Value.slice (some (Addr.mk 2 0 none)) s.5 1) /\ ((((True /\ (True /\ (True /\ True))) /\
  (((True /\ (True /\ (True /\ (True /\ (True /\ (True /\ (True /\ True))))))) /\ (Plain (gC ndC s.3) /\ (Plain (iCells IntKind.i64 s.4) /\ (Plain (mC s.8) /\ True)))) /\
  ((Plain z4 /\ (Plain z5 /\ (Plain z6 /\ True))) /\ PDr s.1 s.2 s.6 s.7 s.5 (List.length s.3) (Row.mk (gC ndC s.3) false (Ob.cells true)) z1 (Row.mk (mC s.8) false (Ob.map
  true)))))) /\ (z3 /\ ((Value.slice (some (Addr.mk 16 0 none)) z2 1 = Value.slice (some (Addr.mk 16 0 none)) z2 1) /\ ((n = IntKind.wrap IntKind.i64 (IntKind.wrap
  IntKind.i64 (Int.ofNat (List.length s.3) - Int.ofNat s.5) - IntKind.wrap IntKind.i64 (Int.ofNat (List.length s.3) - Int.ofNat z2))) /\ ((s'.1 = s.1) /\ ((s'.2 = dtSiz s.1
  s.2 s.6 s.7 s.5 (Row.mk (gC ndC s.3) false (Ob.cells true)) z1 (Row.mk (mC s.8) false (Ob.map true)) K) /\ ((0 = 0) /\ ((List.length s'.3 = List.length s.3) /\ ((0 = 0) /\
  ((s'.5 = dtFn s.1 s.2 s.6 s.7 s.5 (Row.mk (gC ndC s.3) false (Ob.cells true)) z1 (Row.mk (mC s.8) false (Ob.map true)) K) /\ ((s'.6 = dtNw s.1 s.2 s.6 s.7 s.5 (Row.mk (gC
  ndC s.3) false (Ob.cells true)) z1 (Row.mk (mC s.8) false (Ob.map true)) K) /\ ((s'.7 = dtOl s.1 s.2 s.6 s.7 s.5 (Row.mk (gC ndC s.3) false (Ob.cells true)) z1 (Row.mk (mC
  s.8) false (Ob.map true)) K) /\ ((Eq (α := List Value) (gC ndC s'.3) z4) /\ ((Plain (gC ndC s'.3)) /\ ((Eq (α := List Value) (iCells IntKind.i64 s'.4) z5) /\ ((Plain
  (iCells IntKind.i64 s'.4)) /\ ((Eq (α := List Value) (mC s'.8) z6) /\ ((Plain (mC s'.8)) /\ True)))))))))))))))))))) := by kernel_rfl
theorem tDt_ok : ∀ x ∈ tDt, EntOk Try.prog x := all_cons eRm_ok all_nil
theorem Dt_piece : PieceOk EDt 4 (32, pDr, specDt) := by
  refine piece_loop mixed (calls_envT tDt_ok) (lok_envT _ _) lm_none (n := 100) (by kernel_rfl) (fun g : GDt => (⟨g.s, 0⟩ : SDr)) (fun g t => t.j ≤ g.l.length ∧ DrOk t.s (g.l.drop t.j) ∧ drS prT t.s (g.l.drop t.j) = drS prT g.s g.l) (fun g t => g.l.length - t.j) (sl := fun g t => slDt g t.j) (rl := fun g t => rlDt g t.s) (fun g hg => ⟨Nat.zero_le _, hg.1, rfl⟩) (fun g t hg hi => ?_)
  refine (Dt_round g t _ _).mpr ?_
  obtain ⟨s0, l⟩ := g
  obtain ⟨s, j⟩ := t
  obtain ⟨g1, g2⟩ := hg
  obtain ⟨h1, h2, h3⟩ := hi
  simp only at g1 g2 h1 h2 h3
  simp only [ofNat_eq, toNat_cast, Nat.zero_add, Nat.add_zero, Nat.mul_one, List.drop_zero, bCells_len, bCells_drop, bCells_take, bCells_app, bCells_one, bCells_plain, List.length_replicate, List.length_append, List.length_take, List.length_drop, List.take_length, and_true, true_and, and_self, decide_true, List.length_nil, List.length_cons, Nat.sub_zero, dB_mk, dB_ro, List.take_zero, fPl, fLen, nPl, mC_plain, iCells_plain, iCells_len, Nat.add_assoc, Nat.reduceAdd]
  refine br_if (fun h => br_dec (by omega) ?_) (fun h => ?_)
  · have hi : j < l.length := by omega
    have c1 := iCells_get (k := .i64) hi
    have c2 := iCells_cell (k := .i64) hi
    have w := i64_succ (show j < 9223372036854775807 by omega)
    have hd : l.drop j = l.getD j 0 :: l.drop (j + 1) := by rw [List.drop_eq_getElem_cons hi, List.getD_eq_getElem?_getD, List.getElem?_eq_getElem hi]; rfl
    rw [hd] at h2 h3
    obtain ⟨k1, k2⟩ := drOk_step (pr := prT) h2
    have h3' : drS prT (dr1 prT s (l.getD j 0)) (l.drop (j + 1)) = drS prT s0 l := h3
    simp only [Int.toNat_natCast, c1, c2, w, true_and]
    generalize l.getD j 0 = i at *
    obtain ⟨hi1, _⟩ := k2
    refine br_dec hi1 ?_
    have hx2 : i.toNat < s.nd.length := by omega
    obtain ⟨a0, a1, a2, a3, a4, a5, a6, a7, a8, a9, a10, a11, a12, a13, a14, a15⟩ := nGetA s.nd i.toNat hx2
    obtain ⟨b0, b1, b2, b3, b4, b4o, b4n, b5, b6, b7, b7o, b7n, b8, b9, b10, b11, b12, b13, b14, b15⟩ := nGetB s.nd i.toNat hx2
    obtain ⟨m1, m2, m3, m4, m5, m6⟩ := rm_mk s i
    have hp := pRm_mk s i ⟨hi1, ‹_›⟩
    simp only [a0, a1, a2, a3, a4, a5, a6, a7, a8, a9, a10, a11, b0, b1, b2, b3, b4, b4o, b4n, b5, b6, b7, b7o, b7n, b8, b9, b10, b11, gF0, gFt, fTake, fPl, m1, m2, m3, m4, m5, m6, hp, nPl, mC_plain, iCells_plain, true_and, and_true]
    have e1 : dr1 prT s i = rmS s i.toNat := if_pos rfl
    rw [e1] at k1 h3'
    exact ⟨⟨rmS s i.toNat, j + 1⟩, ⟨by simp only; omega, k1, h3'⟩, by simp only; omega, rfl, rfl, rfl, rmN_len s i.toNat, rfl, rfl, rfl, rfl, rfl, rfl⟩
  · have e0 : l.drop j = [] := List.drop_eq_nil_of_le (by omega)
    rw [e0] at h3
    have h3 : s = drS prT s0 l := h3
    rw [← h3]
    exact ⟨(), rfl, rfl, rfl, rfl, rfl, rfl, rfl, rfl, rfl⟩
theorem Dt_con (s : SS) (ord : List Nat) (h : SInv s ord) (hz : Sz s ord) (K : ByteArray) : ConM Try.prog 32 [.pointer (some ⟨0, 0, none⟩), .string K, fnT] [ssR s 1 2 3, gOwn ndC s.nd, iOwn .i64 s.fr, mpR s.m] (.tuple #[]) 5
    [(0, ssR (drS prT s (mget s.m K)) 1 4 3), (1, gOwn ndC (drS prT s (mget s.m K)).nd), (4, iOwn .i64 (drS prT s (mget s.m K)).fr), (3, mpR (drS prT s (mget s.m K)).m)] := by
  refine conM_vc (E := EDt) mixed (calls_envT tDt_ok) (lok_envT _ _) (M := mDt) (lm_one Dt_piece) (Dt_vc s _ K) ?_
  obtain ⟨d1, d2, d3⟩ := mget_ok h hz K
  obtain ⟨q1, q2, q3⟩ := mC_gi K s.m
  have hone : ∀ l : List Int, allOne (iCells .i64 l) = true := fun l => iCells_one _ l
  simp only [ofNat_eq, toNat_cast, Nat.zero_add, Nat.add_zero, Nat.mul_one, List.drop_zero, bCells_len, bCells_drop, bCells_take, bCells_app, bCells_one, bCells_plain, List.length_replicate, List.length_append, List.length_take, List.length_drop, List.take_length, and_true, true_and, and_self, decide_true, List.length_nil, List.length_cons, Nat.sub_zero, dB_mk, dB_ro, List.take_zero, fPl, nPl, mC_plain, iCells_plain, mC_keysS, mC_isone, true_and, and_true]
  refine br_dec q1 (br_b (by rw [q2]; exact hone _) (br_dec (by omega) ⟨⟨s, mget s.m K⟩, ⟨d1, d2⟩, ?_⟩))
  rw [q2]
  refine ⟨q3.symm, by simp only; rw [q3], ?_⟩
  repeat (refine ⟨rfl, ?_⟩)
  intro _ _
  repeat (refine ⟨rfl, ?_⟩)
  rfl
theorem dt_mk (s : SS) (K : ByteArray) :
    dtSiz s.bud s.siz s.nw s.ol s.fn ⟨gC ndC s.nd, false, .cells true⟩ ⟨iCells .i64 s.fr, false, .cells true⟩ ⟨mC s.m, false, .map true⟩ K = (drS prT s (mget s.m K)).siz ∧
    dtNw s.bud s.siz s.nw s.ol s.fn ⟨gC ndC s.nd, false, .cells true⟩ ⟨iCells .i64 s.fr, false, .cells true⟩ ⟨mC s.m, false, .map true⟩ K = (drS prT s (mget s.m K)).nw ∧
    dtOl s.bud s.siz s.nw s.ol s.fn ⟨gC ndC s.nd, false, .cells true⟩ ⟨iCells .i64 s.fr, false, .cells true⟩ ⟨mC s.m, false, .map true⟩ K = (drS prT s (mget s.m K)).ol ∧
    dtFn s.bud s.siz s.nw s.ol s.fn ⟨gC ndC s.nd, false, .cells true⟩ ⟨iCells .i64 s.fr, false, .cells true⟩ ⟨mC s.m, false, .map true⟩ K = (drS prT s (mget s.m K)).fn ∧
    dtNd s.bud s.siz s.nw s.ol s.fn ⟨gC ndC s.nd, false, .cells true⟩ ⟨iCells .i64 s.fr, false, .cells true⟩ ⟨mC s.m, false, .map true⟩ K = gC ndC (drS prT s (mget s.m K)).nd ∧
    dtFr s.bud s.siz s.nw s.ol s.fn ⟨gC ndC s.nd, false, .cells true⟩ ⟨iCells .i64 s.fr, false, .cells true⟩ ⟨mC s.m, false, .map true⟩ K = iCells .i64 (drS prT s (mget s.m K)).fr ∧
    dtMc s.bud s.siz s.nw s.ol s.fn ⟨gC ndC s.nd, false, .cells true⟩ ⟨iCells .i64 s.fr, false, .cells true⟩ ⟨mC s.m, false, .map true⟩ K = mC (drS prT s (mget s.m K)).m ∧
    rvV s.bud s.siz s.nw s.ol s.fn ⟨gC ndC s.nd, false, .cells true⟩ ⟨iCells .i64 s.fr, false, .cells true⟩ ⟨mC s.m, false, .map true⟩ s.nd.length K = rvN s K := by
  unfold dtSiz dtNw dtOl dtFn dtNd dtFr dtMc rvV rvN
  simp only [sealV_eq, sOf_mk, dMp_mk, and_self]
theorem eDt_ok : EntOk Try.prog eDt := by
  intro a rows q v n' rl h hp
  unfold eDt at h
  simp only at h
  split at h
  · rename_i K F bud siz n fn nw ol r1 r2 r3
    cases hF : Nat.beq F 48 with
    | false => rw [hF] at h; simp at h
    | true =>
      rw [hF] at h
      have eF := Nat.eq_of_beq_eq_true hF
      subst eF
      simp only [cond_true, Option.some.injEq, Prod.mk.injEq] at h
      obtain ⟨rfl, rfl, rfl, rfl⟩ := h
      obtain ⟨s, ord, ⟨rfl, rfl, rfl, rfl, rfl, rfl, rfl, rfl, rfl⟩, h1, h2⟩ := hp
      have hc := Dt_con s ord h1 h2 K
      unfold ssR ssC at hc
      obtain ⟨m1, m2, m3, m4, m5, m6, m7, _⟩ := dt_mk s K
      rw [(drS_len prT (mget s.m K) s).1, (drS_len prT (mget s.m K) s).2] at hc
      unfold gOwn iOwn mpR at hc ⊢
      rw [m1, m2, m3, m4, m5, m6, m7]
      exact hc
  · simp at h
theorem tRv_ok : ∀ x ∈ tRv, EntOk Try.prog x := all_cons eDt_ok all_nil
theorem Rv_con (s : SS) (ord : List Nat) (h : SInv s ord) (hz : Sz s ord) (K : ByteArray) : ConM Try.prog 25 [.pointer (some ⟨0, 0, none⟩), .string K] [ssR s 1 2 3, gOwn ndC s.nd, iOwn .i64 s.fr, mpR s.m] (.int .i64 (rvN s K)) 5
    [(0, ssR (drS prT s (mget s.m K)) 1 4 3), (1, gOwn ndC (drS prT s (mget s.m K)).nd), (4, iOwn .i64 (drS prT s (mget s.m K)).fr), (3, mpR (drS prT s (mget s.m K)).m)] := by
  refine conM_vc (E := ERv) mixed (calls_envT tRv_ok) (lok_envT _ _) (M := noM) lm_none (Rv_vc s _ K _) ?_
  obtain ⟨m1, m2, m3, m4, m5, m6, m7, _⟩ := dt_mk s K
  have hpd := pDr_mk s ord h hz
  simp only [ofNat_eq, toNat_cast, Nat.zero_add, Nat.add_zero, Nat.mul_one, List.drop_zero, bCells_len, bCells_drop, bCells_take, bCells_app, bCells_one, bCells_plain, List.length_replicate, List.length_append, List.length_take, List.length_drop, List.take_length, and_true, true_and, and_self, decide_true, List.length_nil, List.length_cons, Nat.sub_zero, dB_mk, dB_ro, List.take_zero, nPl, mC_plain, iCells_plain, m1, m2, m3, m4, m5, m6, m7, hpd, true_and, and_true]
  obtain ⟨p3, p4⟩ := mget_in h K
  obtain ⟨g1, g2, g3⟩ := dr_inv (fun _ _ _ => rfl) (pr := prT) (mget s.m K) s ord h hz p3 p4
  obtain ⟨hl1, hl2⟩ := drS_len prT (mget s.m K) s
  have c1 := h.cnt
  have c2 := g1.cnt
  have c3 := hz.len
  refine ⟨?_, hl2, hl1⟩
  unfold rvN
  rw [hl1] at c2
  have w1 : IntKind.i64.wrap ((s.nd.length : Int) - (s.fn : Int)) = (s.nd.length : Int) - s.fn := wr64_id (by unfold I64; omega)
  have w2 : IntKind.i64.wrap ((s.nd.length : Int) - ((drS prT s (mget s.m K)).fn : Int)) = (s.nd.length : Int) - (drS prT s (mget s.m K)).fn := wr64_id (by unfold I64; omega)
  rw [w1, w2, wr64_id (by unfold I64; omega)]
theorem eRv_ok : EntOk Try.prog eRv := by
  intro a rows q v n' rl h hp
  unfold eRv at h
  simp only at h
  split at h
  · rename_i K bud siz n fn nw ol r1 r2 r3
    simp only [Option.some.injEq, Prod.mk.injEq] at h
    obtain ⟨rfl, rfl, rfl, rfl⟩ := h
    obtain ⟨s, ord, ⟨rfl, rfl, rfl, rfl, rfl, rfl, rfl, rfl, rfl⟩, h1, h2⟩ := hp
    have hc := Rv_con s ord h1 h2 K
    unfold ssR ssC at hc
    obtain ⟨m1, m2, m3, m4, m5, m6, m7, m8⟩ := dt_mk s K
    rw [(drS_len prT (mget s.m K) s).1, (drS_len prT (mget s.m K) s).2] at hc
    unfold gOwn iOwn mpR at hc ⊢
    rw [m1, m2, m3, m4, m5, m6, m7, m8]
    exact hc
  · simp at h
end Go.Proofs.Ytcjbpmphkmcmjaa.so
