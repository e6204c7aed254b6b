/- FrameReads: any pieces of bytes, with the preface or without: the frames and the errors are what the document says. -/
import Derived.Test.YtkeiogmapogpnaaSz9
import Derived.Test.YtkeiogmapogpnaaRows
import Derived.Test.YtkeiogmapogpnaaLfk
set_option linter.unusedSimpArgs false
set_option linter.unusedVariables false
namespace Go.Proofs.Ytkeiogmapogpnaa.fe
open Go Go.Ev Go.Sy Go.RowKit Go.Proofs.Ytkeiogmapogpnaa.s9 Go.Proofs.Ytkeiogmapogpnaa.fd Go.Proofs.Ytkeiogmapogpnaa.gl
noncomputable def enB (p : List UInt8) : List Value := [.slice (some ⟨gCode (bCells p), 0, some 0⟩) p.length 1]
def pF : List Nat := [0, 1, 0, 1, 1, 1, 1, 1, 1, 1]
structure Gr where
  l : List (List UInt8)
  m : Int
structure Sr where
  i : Nat
  q : Rq
  w : Rq
def slc1 (r n : Nat) : Value := .slice (some ⟨r, 0, none⟩) n 1
noncomputable def slF (g : Gr) (s : Sr) : List (Nat × Value) := [(3, slc1 0 g.l.length), (9, .pointer (some ⟨1, 0, none⟩)), (11, .pointer (some ⟨3, 0, none⟩)), (12, .int .i64 (s.i : Nat))]
noncomputable def rlF (g : Gr) (s : Sr) : List (Nat × Row) := [(0, gRo enB g.l), (1, rdX 2 s.q.r.k (s.q.r.x.length - s.q.r.k) g.m (bz s.q.s) (scB s.q.r.bad) s.q.c), (2, bOwn s.q.r.x), (3, rdY 4 s.w.r.k (s.w.r.x.length - s.w.r.k) g.m (bz s.w.s) (scB s.w.r.bad) s.w.c), (4, bOwn s.w.r.x)]
noncomputable def wsF (g : Gr) : List (Gate Unit) := [⟨.exit 0, fun _ => True, fun _ => [], fun _ => [(0, gRo enB g.l)], 5⟩, ⟨.ret, fun _ => False, fun _ => [(8, .bool false)], fun _ => [(0, gRo enB g.l)], 5⟩]
def sF0 (pf : List UInt8) : Sr := ⟨0, ⟨⟨[], 0, false⟩, pf, 0⟩, ⟨⟨[], 0, false⟩, pf, 0⟩⟩
structure Gr0 where
  g : Gr
  pf : List UInt8
noncomputable def specF : Sy.Spec := specOf 1 5 121 (fun g : Gr0 => ∀ p ∈ g.g.l, p.length ≤ maxLen) (fun g => slF g.g (sF0 g.pf)) (fun g => rlF g.g (sF0 g.pf)) (fun g => wsF g.g)
noncomputable def mF := mOf [(5, pF, specF)]
structure Gr1 where
  g : Gr
  o : List (List UInt8)
  pf : List UInt8
noncomputable def slF1 (g : Gr) (s : Sr) : List (Nat × Value) := [(3, slc1 5 g.l.length), (9, .pointer (some ⟨1, 0, none⟩)), (11, .pointer (some ⟨3, 0, none⟩)), (12, .int .i64 (s.i : Nat))]
noncomputable def rlF1 (g : Gr) (o : List (List UInt8)) (s : Sr) : List (Nat × Row) := [(0, gRo enB o), (1, rdX 2 s.q.r.k (s.q.r.x.length - s.q.r.k) g.m (bz s.q.s) (scB s.q.r.bad) s.q.c), (2, bOwn s.q.r.x), (3, rdY 4 s.w.r.k (s.w.r.x.length - s.w.r.k) g.m (bz s.w.s) (scB s.w.r.bad) s.w.c), (4, bOwn s.w.r.x), (5, gOwn enB g.l)]
noncomputable def wsF1 (o : List (List UInt8)) : List (Gate Unit) := [⟨.exit 0, fun _ => True, fun _ => [], fun _ => [(0, gRo enB o)], 6⟩, ⟨.ret, fun _ => False, fun _ => [(8, .bool false)], fun _ => [(0, gRo enB o)], 6⟩]
noncomputable def specF1 : Sy.Spec := specOf 1 6 121 (fun g : Gr1 => ∀ p ∈ g.g.l, p.length ≤ maxLen) (fun g => slF1 g.g (sF0 g.pf)) (fun g => rlF1 g.g g.o (sF0 g.pf)) (fun g => wsF1 g.o)
noncomputable def mF1 := mOf [(5, pF, specF1)]
def prefL : List UInt8 := [80, 82, 73, 32, 42, 32, 72, 84, 84, 80, 47, 50, 46, 48, 13, 10, 13, 10, 83, 77, 13, 10, 13, 10]
noncomputable def tR : List EntM := [eRunF, eFP, eFD, eSameF, eRoo, eIntB]
noncomputable abbrev EtR : Env := envT Try.prog tR
def InvF (g : Gr) (s : Sr) : Prop := s.i ≤ g.l.length ∧ s.i ≤ 20 ∧ Rel s.q s.w ∧ s.q.r.x.length ≤ 400 * s.i ∧ s.w.r.x.length ≤ 400 * s.i
theorem R_round (g : Gr) (s : Sr) (Inv : Sr → Prop) (q : Sr → Nat) : mev EtR noM 60 5 (0 :: pF) false (codeOf Try.prog 5 (0 :: pF)) ⟨mkOv (slF g s), 121, []⟩ none ⟨mkR (rlF g s), 5⟩ (roundK 1 5 121 Inv q (slF g) (rlF g) (wsF g) s) =
  (br (decide ((↑s.1 : Int) < Int.ofNat (List.length g.1))) (br (decide ((↑s.1 : Int) < (20 : Int))) (br (decide ((0 : Int) <= (↑s.1 : Int) /\ (↑s.1 : Int) < (↑(List.length
  g.1) : Int))) ((Eq (α := Option Value) ((gC enB g.1)[0 + Int.toNat (↑s.1 : Int) * 1]?) (some (Value.slice (some (Addr.mk (cellZ (gC enB g.1) (0 + Int.toNat (↑s.1 : Int) *
  1)) (cellO (gC enB g.1) (0 + Int.toNat (↑s.1 : Int) * 1)) (some 0))) (cellN (gC enB g.1) (0 + Int.toNat (↑s.1 : Int) * 1)) 1))) /\ (br (decide (Int.ofNat (cellN (gC enB
  g.1) (0 + Int.toNat (↑s.1 : Int) * 1)) > (400 : Int))) (br (decide ((0 : Int) <= (↑0 : Int) /\ (↑0 : Int) <= (400 : Int) /\ (400 : Int) <= (↑(cellN (gC enB g.1) (0 +
  Int.toNat (↑s.1 : Int) * 1)) : Int))) ((((cellO (gC enB g.1) (0 + Int.toNat (↑s.1 : Int) * 1) + 0 + 400 <= List.length (gCells (cellZ (gC enB g.1) (0 + Int.toNat (↑s.1 :
  Int) * 1))) /\ (True /\ True)) /\ ((True /\ True) /\ ((Plain (bCells (padL (Row.mk (List.take 400 (List.drop (cellO (gC enB g.1) (0 + Int.toNat (↑s.1 : Int) * 1) + 0)
  (gCells (cellZ (gC enB g.1) (0 + Int.toNat (↑s.1 : Int) * 1))))) true (Ob.cells true)) (5 : Int))) /\ True) /\ (IsB (Row.mk (List.take 400 (List.drop (cellO (gC enB g.1)
  (0 + Int.toNat (↑s.1 : Int) * 1) + 0) (gCells (cellZ (gC enB g.1) (0 + Int.toNat (↑s.1 : Int) * 1))))) true (Ob.cells true)) 400 /\ (IsU8 (5 : Int) /\ Int.toNat (400 :
  Int) - Int.toNat (↑0 : Int) <= 16777136)))))) /\ ((((True /\ ((400 <= List.length (bCells (padL (Row.mk (List.take 400 (List.drop (cellO (gC enB g.1) (0 + Int.toNat (↑s.1
  : Int) * 1) + 0) (gCells (cellZ (gC enB g.1) (0 + Int.toNat (↑s.1 : Int) * 1))))) true (Ob.cells true)) (5 : Int))) /\ Plain (List.take 400 (List.drop 0 (bCells (padL
  (Row.mk (List.take 400 (List.drop (cellO (gC enB g.1) (0 + Int.toNat (↑s.1 : Int) * 1) + 0) (gCells (cellZ (gC enB g.1) (0 + Int.toNat (↑s.1 : Int) * 1))))) true (Ob.cells
  true)) (5 : Int)))))) /\ True)) /\ (((True /\ (True /\ (True /\ (True /\ (True /\ (True /\ True)))))) /\ (True /\ (Plain (bCells s.2.1.1) /\ True))) /\ ((Plain (bCells (pX
  (Row.mk (bCells s.2.1.1) false (Ob.cells true)) s.2.1.2 g.2 (bz s.2.2) (scB s.2.1.3) s.2.3 (Row.mk (List.take 400 (List.drop 0 (bCells (padL (Row.mk (List.take 400
  (List.drop (cellO (gC enB g.1) (0 + Int.toNat (↑s.1 : Int) * 1) + 0) (gCells (cellZ (gC enB g.1) (0 + Int.toNat (↑s.1 : Int) * 1))))) true (Ob.cells true)) (5 : Int)))))
  true (Ob.cells true)))) /\ (Plain (gC enG (pL (Row.mk (bCells s.2.1.1) false (Ob.cells true)) s.2.1.2 g.2 (bz s.2.2) (scB s.2.1.3) s.2.3 (Row.mk (List.take 400 (List.drop
  0 (bCells (padL (Row.mk (List.take 400 (List.drop (cellO (gC enB g.1) (0 + Int.toNat (↑s.1 : Int) * 1) + 0) (gCells (cellZ (gC enB g.1) (0 + Int.toNat (↑s.1 : Int) *
  1))))) true (Ob.cells true)) (5 : Int))))) true (Ob.cells true)))) /\ True)) /\ IsQ (Row.mk (bCells s.2.1.1) false (Ob.cells true)) s.2.1.2 (List.length s.2.1.1 - s.2.1.2)
  (bz s.2.2) (scB s.2.1.3) s.2.3 (Row.mk (List.take 400 (List.drop 0 (bCells (padL (Row.mk (List.take 400 (List.drop (cellO (gC enB g.1) (0 + Int.toNat (↑s.1 : Int) * 1) +
  0) (gCells (cellZ (gC enB g.1) (0 + Int.toNat (↑s.1 : Int) * 1))))) true (Ob.cells true)) (5 : Int))))) true (Ob.cells true)) 400)))) /\ ((((True /\ (cellO (gC enB g.1) (0
  + Int.toNat (↑s.1 : Int) * 1) + 0 + 400 <= List.length (gCells (cellZ (gC enB g.1) (0 + Int.toNat (↑s.1 : Int) * 1))) /\ True)) /\ (((True /\ (True /\ (True /\ (True /\
  (True /\ (True /\ True)))))) /\ (True /\ (Plain (bCells s.3.1.1) /\ True))) /\ ((Plain (bCells (uX (Row.mk (bCells s.3.1.1) false (Ob.cells true)) s.3.1.2 g.2 (bz s.3.2)
  (scB s.3.1.3) s.3.3 (Row.mk (List.take 400 (List.drop (cellO (gC enB g.1) (0 + Int.toNat (↑s.1 : Int) * 1) + 0) (gCells (cellZ (gC enB g.1) (0 + Int.toNat (↑s.1 : Int) *
  1))))) true (Ob.cells true)))) /\ (Plain (gC enG (uL (Row.mk (bCells s.3.1.1) false (Ob.cells true)) s.3.1.2 g.2 (bz s.3.2) (scB s.3.1.3) s.3.3 (Row.mk (List.take 400
  (List.drop (cellO (gC enB g.1) (0 + Int.toNat (↑s.1 : Int) * 1) + 0) (gCells (cellZ (gC enB g.1) (0 + Int.toNat (↑s.1 : Int) * 1))))) true (Ob.cells true)))) /\ True)) /\
  IsQ (Row.mk (bCells s.3.1.1) false (Ob.cells true)) s.3.1.2 (List.length s.3.1.1 - s.3.1.2) (bz s.3.2) (scB s.3.1.3) s.3.3 (Row.mk (List.take 400 (List.drop (cellO (gC enB
  g.1) (0 + Int.toNat (↑s.1 : Int) * 1) + 0) (gCells (cellZ (gC enB g.1) (0 + Int.toNat (↑s.1 : Int) * 1))))) true (Ob.cells true)) 400)))) /\ (((((0 + pM (Row.mk (bCells
  s.2.1.1) false (Ob.cells true)) s.2.1.2 g.2 (bz s.2.2) (scB s.2.1.3) s.2.3 (Row.mk (List.take 400 (List.drop 0 (bCells (padL (Row.mk (List.take 400 (List.drop (cellO (gC
  enB g.1) (0 + Int.toNat (↑s.1 : Int) * 1) + 0) (gCells (cellZ (gC enB g.1) (0 + Int.toNat (↑s.1 : Int) * 1))))) true (Ob.cells true)) (5 : Int))))) true (Ob.cells true)) *
  4 <= List.length (gC enG (pL (Row.mk (bCells s.2.1.1) false (Ob.cells true)) s.2.1.2 g.2 (bz s.2.2) (scB s.2.1.3) s.2.3 (Row.mk (List.take 400 (List.drop 0 (bCells (padL
  (Row.mk (List.take 400 (List.drop (cellO (gC enB g.1) (0 + Int.toNat (↑s.1 : Int) * 1) + 0) (gCells (cellZ (gC enB g.1) (0 + Int.toNat (↑s.1 : Int) * 1))))) true (Ob.cells
  true)) (5 : Int))))) true (Ob.cells true)))) /\ Plain (List.take (pM (Row.mk (bCells s.2.1.1) false (Ob.cells true)) s.2.1.2 g.2 (bz s.2.2) (scB s.2.1.3) s.2.3 (Row.mk
  (List.take 400 (List.drop 0 (bCells (padL (Row.mk (List.take 400 (List.drop (cellO (gC enB g.1) (0 + Int.toNat (↑s.1 : Int) * 1) + 0) (gCells (cellZ (gC enB g.1) (0 +
  Int.toNat (↑s.1 : Int) * 1))))) true (Ob.cells true)) (5 : Int))))) true (Ob.cells true)) * 4) (List.drop 0 (gC enG (pL (Row.mk (bCells s.2.1.1) false (Ob.cells true))
  s.2.1.2 g.2 (bz s.2.2) (scB s.2.1.3) s.2.3 (Row.mk (List.take 400 (List.drop 0 (bCells (padL (Row.mk (List.take 400 (List.drop (cellO (gC enB g.1) (0 + Int.toNat (↑s.1 :
  Int) * 1) + 0) (gCells (cellZ (gC enB g.1) (0 + Int.toNat (↑s.1 : Int) * 1))))) true (Ob.cells true)) (5 : Int))))) true (Ob.cells true))))))) /\ ((0 + uM (Row.mk (bCells
  s.3.1.1) false (Ob.cells true)) s.3.1.2 g.2 (bz s.3.2) (scB s.3.1.3) s.3.3 (Row.mk (List.take 400 (List.drop (cellO (gC enB g.1) (0 + Int.toNat (↑s.1 : Int) * 1) + 0)
  (gCells (cellZ (gC enB g.1) (0 + Int.toNat (↑s.1 : Int) * 1))))) true (Ob.cells true)) * 4 <= List.length (gC enG (uL (Row.mk (bCells s.3.1.1) false (Ob.cells true))
  s.3.1.2 g.2 (bz s.3.2) (scB s.3.1.3) s.3.3 (Row.mk (List.take 400 (List.drop (cellO (gC enB g.1) (0 + Int.toNat (↑s.1 : Int) * 1) + 0) (gCells (cellZ (gC enB g.1) (0 +
  Int.toNat (↑s.1 : Int) * 1))))) true (Ob.cells true)))) /\ Plain (List.take (uM (Row.mk (bCells s.3.1.1) false (Ob.cells true)) s.3.1.2 g.2 (bz s.3.2) (scB s.3.1.3) s.3.3
  (Row.mk (List.take 400 (List.drop (cellO (gC enB g.1) (0 + Int.toNat (↑s.1 : Int) * 1) + 0) (gCells (cellZ (gC enB g.1) (0 + Int.toNat (↑s.1 : Int) * 1))))) true (Ob.cells
  true)) * 4) (List.drop 0 (gC enG (uL (Row.mk (bCells s.3.1.1) false (Ob.cells true)) s.3.1.2 g.2 (bz s.3.2) (scB s.3.1.3) s.3.3 (Row.mk (List.take 400 (List.drop (cellO
  (gC enB g.1) (0 + Int.toNat (↑s.1 : Int) * 1) + 0) (gCells (cellZ (gC enB g.1) (0 + Int.toNat (↑s.1 : Int) * 1))))) true (Ob.cells true))))))) /\ True)) /\ ((True /\ (True
  /\ True)) /\ (True /\ (IsF (Row.mk (List.take (pM (Row.mk (bCells s.2.1.1) false (Ob.cells true)) s.2.1.2 g.2 (bz s.2.2) (scB s.2.1.3) s.2.3 (Row.mk (List.take 400
  (List.drop 0 (bCells (padL (Row.mk (List.take 400 (List.drop (cellO (gC enB g.1) (0 + Int.toNat (↑s.1 : Int) * 1) + 0) (gCells (cellZ (gC enB g.1) (0 + Int.toNat (↑s.1 :
  Int) * 1))))) true (Ob.cells true)) (5 : Int))))) true (Ob.cells true)) * 4) (List.drop 0 (gC enG (pL (Row.mk (bCells s.2.1.1) false (Ob.cells true)) s.2.1.2 g.2 (bz
  s.2.2) (scB s.2.1.3) s.2.3 (Row.mk (List.take 400 (List.drop 0 (bCells (padL (Row.mk (List.take 400 (List.drop (cellO (gC enB g.1) (0 + Int.toNat (↑s.1 : Int) * 1) + 0)
  (gCells (cellZ (gC enB g.1) (0 + Int.toNat (↑s.1 : Int) * 1))))) true (Ob.cells true)) (5 : Int))))) true (Ob.cells true)))))) true (Ob.cells true)) (pM (Row.mk (bCells
  s.2.1.1) false (Ob.cells true)) s.2.1.2 g.2 (bz s.2.2) (scB s.2.1.3) s.2.3 (Row.mk (List.take 400 (List.drop 0 (bCells (padL (Row.mk (List.take 400 (List.drop (cellO (gC
  enB g.1) (0 + Int.toNat (↑s.1 : Int) * 1) + 0) (gCells (cellZ (gC enB g.1) (0 + Int.toNat (↑s.1 : Int) * 1))))) true (Ob.cells true)) (5 : Int))))) true (Ob.cells true)))
  /\ (IsF (Row.mk (List.take (uM (Row.mk (bCells s.3.1.1) false (Ob.cells true)) s.3.1.2 g.2 (bz s.3.2) (scB s.3.1.3) s.3.3 (Row.mk (List.take 400 (List.drop (cellO (gC enB
  g.1) (0 + Int.toNat (↑s.1 : Int) * 1) + 0) (gCells (cellZ (gC enB g.1) (0 + Int.toNat (↑s.1 : Int) * 1))))) true (Ob.cells true)) * 4) (List.drop 0 (gC enG (uL (Row.mk
  (bCells s.3.1.1) false (Ob.cells true)) s.3.1.2 g.2 (bz s.3.2) (scB s.3.1.3) s.3.3 (Row.mk (List.take 400 (List.drop (cellO (gC enB g.1) (0 + Int.toNat (↑s.1 : Int) * 1) +
  0) (gCells (cellZ (gC enB g.1) (0 + Int.toNat (↑s.1 : Int) * 1))))) true (Ob.cells true)))))) true (Ob.cells true)) (uM (Row.mk (bCells s.3.1.1) false (Ob.cells true))
  s.3.1.2 g.2 (bz s.3.2) (scB s.3.1.3) s.3.3 (Row.mk (List.take 400 (List.drop (cellO (gC enB g.1) (0 + Int.toNat (↑s.1 : Int) * 1) + 0) (gCells (cellZ (gC enB g.1) (0 +
  Int.toNat (↑s.1 : Int) * 1))))) true (Ob.cells true))) /\ pM (Row.mk (bCells s.2.1.1) false (Ob.cells true)) s.2.1.2 g.2 (bz s.2.2) (scB s.2.1.3) s.2.3 (Row.mk (List.take
  400 (List.drop 0 (bCells (padL (Row.mk (List.take 400 (List.drop (cellO (gC enB g.1) (0 + Int.toNat (↑s.1 : Int) * 1) + 0) (gCells (cellZ (gC enB g.1) (0 + Int.toNat (↑s.1
  : Int) * 1))))) true (Ob.cells true)) (5 : Int))))) true (Ob.cells true)) <= 9223372036854775807)))))) /\ (br (!zF (Row.mk (List.take (pM (Row.mk (bCells s.2.1.1) false
  (Ob.cells true)) s.2.1.2 g.2 (bz s.2.2) (scB s.2.1.3) s.2.3 (Row.mk (List.take 400 (List.drop 0 (bCells (padL (Row.mk (List.take 400 (List.drop (cellO (gC enB g.1) (0 +
  Int.toNat (↑s.1 : Int) * 1) + 0) (gCells (cellZ (gC enB g.1) (0 + Int.toNat (↑s.1 : Int) * 1))))) true (Ob.cells true)) (5 : Int))))) true (Ob.cells true)) * 4) (List.drop
  0 (gC enG (pL (Row.mk (bCells s.2.1.1) false (Ob.cells true)) s.2.1.2 g.2 (bz s.2.2) (scB s.2.1.3) s.2.3 (Row.mk (List.take 400 (List.drop 0 (bCells (padL (Row.mk
  (List.take 400 (List.drop (cellO (gC enB g.1) (0 + Int.toNat (↑s.1 : Int) * 1) + 0) (gCells (cellZ (gC enB g.1) (0 + Int.toNat (↑s.1 : Int) * 1))))) true (Ob.cells true))
  (5 : Int))))) true (Ob.cells true)))))) true (Ob.cells true)) (Row.mk (List.take (uM (Row.mk (bCells s.3.1.1) false (Ob.cells true)) s.3.1.2 g.2 (bz s.3.2) (scB s.3.1.3)
  s.3.3 (Row.mk (List.take 400 (List.drop (cellO (gC enB g.1) (0 + Int.toNat (↑s.1 : Int) * 1) + 0) (gCells (cellZ (gC enB g.1) (0 + Int.toNat (↑s.1 : Int) * 1))))) true
  (Ob.cells true)) * 4) (List.drop 0 (gC enG (uL (Row.mk (bCells s.3.1.1) false (Ob.cells true)) s.3.1.2 g.2 (bz s.3.2) (scB s.3.1.3) s.3.3 (Row.mk (List.take 400 (List.drop
  (cellO (gC enB g.1) (0 + Int.toNat (↑s.1 : Int) * 1) + 0) (gCells (cellZ (gC enB g.1) (0 + Int.toNat (↑s.1 : Int) * 1))))) true (Ob.cells true)))))) true (Ob.cells true)))
  (∃ y : Unit, ((False) /\ ((false = false) /\ ((Eq (α := List Value) (gC enB g.1) (gC enB g.1)) /\ ((Plain (gC enB g.1)) /\ True))))) (br (!(pB (Row.mk (bCells s.2.1.1)
  false (Ob.cells true)) s.2.1.2 g.2 (bz s.2.2) (scB s.2.1.3) s.2.3 (Row.mk (List.take 400 (List.drop 0 (bCells (padL (Row.mk (List.take 400 (List.drop (cellO (gC enB g.1)
  (0 + Int.toNat (↑s.1 : Int) * 1) + 0) (gCells (cellZ (gC enB g.1) (0 + Int.toNat (↑s.1 : Int) * 1))))) true (Ob.cells true)) (5 : Int))))) true (Ob.cells true)) == uB
  (Row.mk (bCells s.3.1.1) false (Ob.cells true)) s.3.1.2 g.2 (bz s.3.2) (scB s.3.1.3) s.3.3 (Row.mk (List.take 400 (List.drop (cellO (gC enB g.1) (0 + Int.toNat (↑s.1 :
  Int) * 1) + 0) (gCells (cellZ (gC enB g.1) (0 + Int.toNat (↑s.1 : Int) * 1))))) true (Ob.cells true)) && (pC (Row.mk (bCells s.2.1.1) false (Ob.cells true)) s.2.1.2 g.2
  (bz s.2.2) (scB s.2.1.3) s.2.3 (Row.mk (List.take 400 (List.drop 0 (bCells (padL (Row.mk (List.take 400 (List.drop (cellO (gC enB g.1) (0 + Int.toNat (↑s.1 : Int) * 1) +
  0) (gCells (cellZ (gC enB g.1) (0 + Int.toNat (↑s.1 : Int) * 1))))) true (Ob.cells true)) (5 : Int))))) true (Ob.cells true)) == uC (Row.mk (bCells s.3.1.1) false
  (Ob.cells true)) s.3.1.2 g.2 (bz s.3.2) (scB s.3.1.3) s.3.3 (Row.mk (List.take 400 (List.drop (cellO (gC enB g.1) (0 + Int.toNat (↑s.1 : Int) * 1) + 0) (gCells (cellZ (gC
  enB g.1) (0 + Int.toNat (↑s.1 : Int) * 1))))) true (Ob.cells true)) && true))) ((Value.agg (Array.mk [Value.int IntKind.i64 (pB (Row.mk (bCells s.2.1.1) false (Ob.cells
  true)) s.2.1.2 g.2 (bz s.2.2) (scB s.2.1.3) s.2.3 (Row.mk (List.take 400 (List.drop 0 (bCells (padL (Row.mk (List.take 400 (List.drop (cellO (gC enB g.1) (0 + Int.toNat
  (↑s.1 : Int) * 1) + 0) (gCells (cellZ (gC enB g.1) (0 + Int.toNat (↑s.1 : Int) * 1))))) true (Ob.cells true)) (5 : Int))))) true (Ob.cells true))), Value.int IntKind.i64
  (pC (Row.mk (bCells s.2.1.1) false (Ob.cells true)) s.2.1.2 g.2 (bz s.2.2) (scB s.2.1.3) s.2.3 (Row.mk (List.take 400 (List.drop 0 (bCells (padL (Row.mk (List.take 400
  (List.drop (cellO (gC enB g.1) (0 + Int.toNat (↑s.1 : Int) * 1) + 0) (gCells (cellZ (gC enB g.1) (0 + Int.toNat (↑s.1 : Int) * 1))))) true (Ob.cells true)) (5 : Int)))))
  true (Ob.cells true))), Value.int IntKind.i64 (0 : Int)]) = Value.agg (Array.mk [Value.int IntKind.i64 (pB (Row.mk (bCells s.2.1.1) false (Ob.cells true)) s.2.1.2 g.2 (bz
  s.2.2) (scB s.2.1.3) s.2.3 (Row.mk (List.take 400 (List.drop 0 (bCells (padL (Row.mk (List.take 400 (List.drop (cellO (gC enB g.1) (0 + Int.toNat (↑s.1 : Int) * 1) + 0)
  (gCells (cellZ (gC enB g.1) (0 + Int.toNat (↑s.1 : Int) * 1))))) true (Ob.cells true)) (5 : Int))))) true (Ob.cells true))), Value.int IntKind.i64 (pC (Row.mk (bCells
  s.2.1.1) false (Ob.cells true)) s.2.1.2 g.2 (bz s.2.2) (scB s.2.1.3) s.2.3 (Row.mk (List.take 400 (List.drop 0 (bCells (padL (Row.mk (List.take 400 (List.drop (cellO (gC
  enB g.1) (0 + Int.toNat (↑s.1 : Int) * 1) + 0) (gCells (cellZ (gC enB g.1) (0 + Int.toNat (↑s.1 : Int) * 1))))) true (Ob.cells true)) (5 : Int))))) true (Ob.cells true))),
  Value.int IntKind.i64 (0 : Int)])) /\ ((Value.agg (Array.mk [Value.int IntKind.i64 (uB (Row.mk (bCells s.3.1.1) false (Ob.cells true)) s.3.1.2 g.2 (bz s.3.2) (scB s.3.1.3)
  s.3.3 (Row.mk (List.take 400 (List.drop (cellO (gC enB g.1) (0 + Int.toNat (↑s.1 : Int) * 1) + 0) (gCells (cellZ (gC enB g.1) (0 + Int.toNat (↑s.1 : Int) * 1))))) true
  (Ob.cells true))), Value.int IntKind.i64 (uC (Row.mk (bCells s.3.1.1) false (Ob.cells true)) s.3.1.2 g.2 (bz s.3.2) (scB s.3.1.3) s.3.3 (Row.mk (List.take 400 (List.drop
  (cellO (gC enB g.1) (0 + Int.toNat (↑s.1 : Int) * 1) + 0) (gCells (cellZ (gC enB g.1) (0 + Int.toNat (↑s.1 : Int) * 1))))) true (Ob.cells true))), Value.int IntKind.i64 (0
  : Int)]) = Value.agg (Array.mk [Value.int IntKind.i64 (uB (Row.mk (bCells s.3.1.1) false (Ob.cells true)) s.3.1.2 g.2 (bz s.3.2) (scB s.3.1.3) s.3.3 (Row.mk (List.take 400
  (List.drop (cellO (gC enB g.1) (0 + Int.toNat (↑s.1 : Int) * 1) + 0) (gCells (cellZ (gC enB g.1) (0 + Int.toNat (↑s.1 : Int) * 1))))) true (Ob.cells true))), Value.int
  IntKind.i64 (uC (Row.mk (bCells s.3.1.1) false (Ob.cells true)) s.3.1.2 g.2 (bz s.3.2) (scB s.3.1.3) s.3.3 (Row.mk (List.take 400 (List.drop (cellO (gC enB g.1) (0 +
  Int.toNat (↑s.1 : Int) * 1) + 0) (gCells (cellZ (gC enB g.1) (0 + Int.toNat (↑s.1 : Int) * 1))))) true (Ob.cells true))), Value.int IntKind.i64 (0 : Int)])) /\ (∃ y :
  Unit, ((False) /\ ((false = false) /\ ((Eq (α := List Value) (gC enB g.1) (gC enB g.1)) /\ ((Plain (gC enB g.1)) /\ True))))))) (br (Int.ofNat (pN (Row.mk (bCells s.2.1.1)
  false (Ob.cells true)) s.2.1.2 g.2 (bz s.2.2) (scB s.2.1.3) s.2.3 (Row.mk (List.take 400 (List.drop 0 (bCells (padL (Row.mk (List.take 400 (List.drop (cellO (gC enB g.1)
  (0 + Int.toNat (↑s.1 : Int) * 1) + 0) (gCells (cellZ (gC enB g.1) (0 + Int.toNat (↑s.1 : Int) * 1))))) true (Ob.cells true)) (5 : Int))))) true (Ob.cells true))) !=
  Int.ofNat (uN (Row.mk (bCells s.3.1.1) false (Ob.cells true)) s.3.1.2 g.2 (bz s.3.2) (scB s.3.1.3) s.3.3 (Row.mk (List.take 400 (List.drop (cellO (gC enB g.1) (0 +
  Int.toNat (↑s.1 : Int) * 1) + 0) (gCells (cellZ (gC enB g.1) (0 + Int.toNat (↑s.1 : Int) * 1))))) true (Ob.cells true)))) ((Value.agg (Array.mk [Value.int IntKind.i64 (pB
  (Row.mk (bCells s.2.1.1) false (Ob.cells true)) s.2.1.2 g.2 (bz s.2.2) (scB s.2.1.3) s.2.3 (Row.mk (List.take 400 (List.drop 0 (bCells (padL (Row.mk (List.take 400
  (List.drop (cellO (gC enB g.1) (0 + Int.toNat (↑s.1 : Int) * 1) + 0) (gCells (cellZ (gC enB g.1) (0 + Int.toNat (↑s.1 : Int) * 1))))) true (Ob.cells true)) (5 : Int)))))
  true (Ob.cells true))), Value.int IntKind.i64 (pC (Row.mk (bCells s.2.1.1) false (Ob.cells true)) s.2.1.2 g.2 (bz s.2.2) (scB s.2.1.3) s.2.3 (Row.mk (List.take 400
  (List.drop 0 (bCells (padL (Row.mk (List.take 400 (List.drop (cellO (gC enB g.1) (0 + Int.toNat (↑s.1 : Int) * 1) + 0) (gCells (cellZ (gC enB g.1) (0 + Int.toNat (↑s.1 :
  Int) * 1))))) true (Ob.cells true)) (5 : Int))))) true (Ob.cells true))), Value.int IntKind.i64 (0 : Int)]) = Value.agg (Array.mk [Value.int IntKind.i64 (pB (Row.mk
  (bCells s.2.1.1) false (Ob.cells true)) s.2.1.2 g.2 (bz s.2.2) (scB s.2.1.3) s.2.3 (Row.mk (List.take 400 (List.drop 0 (bCells (padL (Row.mk (List.take 400 (List.drop
  (cellO (gC enB g.1) (0 + Int.toNat (↑s.1 : Int) * 1) + 0) (gCells (cellZ (gC enB g.1) (0 + Int.toNat (↑s.1 : Int) * 1))))) true (Ob.cells true)) (5 : Int))))) true
  (Ob.cells true))), Value.int IntKind.i64 (pC (Row.mk (bCells s.2.1.1) false (Ob.cells true)) s.2.1.2 g.2 (bz s.2.2) (scB s.2.1.3) s.2.3 (Row.mk (List.take 400 (List.drop 0
  (bCells (padL (Row.mk (List.take 400 (List.drop (cellO (gC enB g.1) (0 + Int.toNat (↑s.1 : Int) * 1) + 0) (gCells (cellZ (gC enB g.1) (0 + Int.toNat (↑s.1 : Int) * 1)))))
  true (Ob.cells true)) (5 : Int))))) true (Ob.cells true))), Value.int IntKind.i64 (0 : Int)])) /\ ((Value.agg (Array.mk [Value.int IntKind.i64 (uB (Row.mk (bCells s.3.1.1)
  false (Ob.cells true)) s.3.1.2 g.2 (bz s.3.2) (scB s.3.1.3) s.3.3 (Row.mk (List.take 400 (List.drop (cellO (gC enB g.1) (0 + Int.toNat (↑s.1 : Int) * 1) + 0) (gCells
  (cellZ (gC enB g.1) (0 + Int.toNat (↑s.1 : Int) * 1))))) true (Ob.cells true))), Value.int IntKind.i64 (uC (Row.mk (bCells s.3.1.1) false (Ob.cells true)) s.3.1.2 g.2 (bz
  s.3.2) (scB s.3.1.3) s.3.3 (Row.mk (List.take 400 (List.drop (cellO (gC enB g.1) (0 + Int.toNat (↑s.1 : Int) * 1) + 0) (gCells (cellZ (gC enB g.1) (0 + Int.toNat (↑s.1 :
  Int) * 1))))) true (Ob.cells true))), Value.int IntKind.i64 (0 : Int)]) = Value.agg (Array.mk [Value.int IntKind.i64 (uB (Row.mk (bCells s.3.1.1) false (Ob.cells true))
  s.3.1.2 g.2 (bz s.3.2) (scB s.3.1.3) s.3.3 (Row.mk (List.take 400 (List.drop (cellO (gC enB g.1) (0 + Int.toNat (↑s.1 : Int) * 1) + 0) (gCells (cellZ (gC enB g.1) (0 +
  Int.toNat (↑s.1 : Int) * 1))))) true (Ob.cells true))), Value.int IntKind.i64 (uC (Row.mk (bCells s.3.1.1) false (Ob.cells true)) s.3.1.2 g.2 (bz s.3.2) (scB s.3.1.3)
  s.3.3 (Row.mk (List.take 400 (List.drop (cellO (gC enB g.1) (0 + Int.toNat (↑s.1 : Int) * 1) + 0) (gCells (cellZ (gC enB g.1) (0 + Int.toNat (↑s.1 : Int) * 1))))) true
  (Ob.cells true))), Value.int IntKind.i64 (0 : Int)])) /\ ((Value.slice (some (Addr.mk 13 (0 + uK (Row.mk (bCells s.3.1.1) false (Ob.cells true)) s.3.1.2 g.2 (bz s.3.2)
  (scB s.3.1.3) s.3.3 (Row.mk (List.take 400 (List.drop (cellO (gC enB g.1) (0 + Int.toNat (↑s.1 : Int) * 1) + 0) (gCells (cellZ (gC enB g.1) (0 + Int.toNat (↑s.1 : Int) *
  1))))) true (Ob.cells true))) none)) (uN (Row.mk (bCells s.3.1.1) false (Ob.cells true)) s.3.1.2 g.2 (bz s.3.2) (scB s.3.1.3) s.3.3 (Row.mk (List.take 400 (List.drop
  (cellO (gC enB g.1) (0 + Int.toNat (↑s.1 : Int) * 1) + 0) (gCells (cellZ (gC enB g.1) (0 + Int.toNat (↑s.1 : Int) * 1))))) true (Ob.cells true))) 1 = Value.slice (some
  (Addr.mk 13 (0 + uK (Row.mk (bCells s.3.1.1) false (Ob.cells true)) s.3.1.2 g.2 (bz s.3.2) (scB s.3.1.3) s.3.3 (Row.mk (List.take 400 (List.drop (cellO (gC enB g.1) (0 +
  Int.toNat (↑s.1 : Int) * 1) + 0) (gCells (cellZ (gC enB g.1) (0 + Int.toNat (↑s.1 : Int) * 1))))) true (Ob.cells true))) none)) (uN (Row.mk (bCells s.3.1.1) false
  (Ob.cells true)) s.3.1.2 g.2 (bz s.3.2) (scB s.3.1.3) s.3.3 (Row.mk (List.take 400 (List.drop (cellO (gC enB g.1) (0 + Int.toNat (↑s.1 : Int) * 1) + 0) (gCells (cellZ (gC
  enB g.1) (0 + Int.toNat (↑s.1 : Int) * 1))))) true (Ob.cells true))) 1) /\ ((Value.slice (some (Addr.mk 13 (0 + uK (Row.mk (bCells s.3.1.1) false (Ob.cells true)) s.3.1.2
  g.2 (bz s.3.2) (scB s.3.1.3) s.3.3 (Row.mk (List.take 400 (List.drop (cellO (gC enB g.1) (0 + Int.toNat (↑s.1 : Int) * 1) + 0) (gCells (cellZ (gC enB g.1) (0 + Int.toNat
  (↑s.1 : Int) * 1))))) true (Ob.cells true))) none)) (uN (Row.mk (bCells s.3.1.1) false (Ob.cells true)) s.3.1.2 g.2 (bz s.3.2) (scB s.3.1.3) s.3.3 (Row.mk (List.take 400
  (List.drop (cellO (gC enB g.1) (0 + Int.toNat (↑s.1 : Int) * 1) + 0) (gCells (cellZ (gC enB g.1) (0 + Int.toNat (↑s.1 : Int) * 1))))) true (Ob.cells true))) 1 =
  Value.slice (some (Addr.mk 13 (0 + uK (Row.mk (bCells s.3.1.1) false (Ob.cells true)) s.3.1.2 g.2 (bz s.3.2) (scB s.3.1.3) s.3.3 (Row.mk (List.take 400 (List.drop (cellO
  (gC enB g.1) (0 + Int.toNat (↑s.1 : Int) * 1) + 0) (gCells (cellZ (gC enB g.1) (0 + Int.toNat (↑s.1 : Int) * 1))))) true (Ob.cells true))) none)) (uN (Row.mk (bCells
  s.3.1.1) false (Ob.cells true)) s.3.1.2 g.2 (bz s.3.2) (scB s.3.1.3) s.3.3 (Row.mk (List.take 400 (List.drop (cellO (gC enB g.1) (0 + Int.toNat (↑s.1 : Int) * 1) + 0)
  (gCells (cellZ (gC enB g.1) (0 + Int.toNat (↑s.1 : Int) * 1))))) true (Ob.cells true))) 1) /\ (∃ y : Unit, ((False) /\ ((false = false) /\ ((Eq (α := List Value) (gC enB
  g.1) (gC enB g.1)) /\ ((Plain (gC enB g.1)) /\ True))))))))) (((((480 <= List.length (bCells (padL (Row.mk (List.take 400 (List.drop (cellO (gC enB g.1) (0 + Int.toNat
  (↑s.1 : Int) * 1) + 0) (gCells (cellZ (gC enB g.1) (0 + Int.toNat (↑s.1 : Int) * 1))))) true (Ob.cells true)) (5 : Int))) /\ Plain (List.take 480 (List.drop 0 (bCells
  (padL (Row.mk (List.take 400 (List.drop (cellO (gC enB g.1) (0 + Int.toNat (↑s.1 : Int) * 1) + 0) (gCells (cellZ (gC enB g.1) (0 + Int.toNat (↑s.1 : Int) * 1))))) true
  (Ob.cells true)) (5 : Int)))))) /\ (cellO (gC enB g.1) (0 + Int.toNat (↑s.1 : Int) * 1) + 0 + 400 <= List.length (gCells (cellZ (gC enB g.1) (0 + Int.toNat (↑s.1 : Int) *
  1))) /\ (True /\ True))) /\ ((True /\ (True /\ True)) /\ (True /\ (IsB (Row.mk (List.take 480 (List.drop 0 (bCells (padL (Row.mk (List.take 400 (List.drop (cellO (gC enB
  g.1) (0 + Int.toNat (↑s.1 : Int) * 1) + 0) (gCells (cellZ (gC enB g.1) (0 + Int.toNat (↑s.1 : Int) * 1))))) true (Ob.cells true)) (5 : Int))))) true (Ob.cells true)) 480
  /\ (IsB (Row.mk (List.take 400 (List.drop (cellO (gC enB g.1) (0 + Int.toNat (↑s.1 : Int) * 1) + 0) (gCells (cellZ (gC enB g.1) (0 + Int.toNat (↑s.1 : Int) * 1))))) true
  (Ob.cells true)) 400 /\ (IsU8 (5 : Int) /\ (Int.toNat (400 : Int) - Int.toNat (↑0 : Int) + 80 <= maxLen /\ Int.toNat (400 : Int) - Int.toNat (↑0 : Int) <=
  9223372036854775000)))))))) /\ ((Value.agg (Array.mk [Value.int IntKind.i64 (pB (Row.mk (bCells s.2.1.1) false (Ob.cells true)) s.2.1.2 g.2 (bz s.2.2) (scB s.2.1.3) s.2.3
  (Row.mk (List.take 400 (List.drop 0 (bCells (padL (Row.mk (List.take 400 (List.drop (cellO (gC enB g.1) (0 + Int.toNat (↑s.1 : Int) * 1) + 0) (gCells (cellZ (gC enB g.1)
  (0 + Int.toNat (↑s.1 : Int) * 1))))) true (Ob.cells true)) (5 : Int))))) true (Ob.cells true))), Value.int IntKind.i64 (pC (Row.mk (bCells s.2.1.1) false (Ob.cells true))
  s.2.1.2 g.2 (bz s.2.2) (scB s.2.1.3) s.2.3 (Row.mk (List.take 400 (List.drop 0 (bCells (padL (Row.mk (List.take 400 (List.drop (cellO (gC enB g.1) (0 + Int.toNat (↑s.1 :
  Int) * 1) + 0) (gCells (cellZ (gC enB g.1) (0 + Int.toNat (↑s.1 : Int) * 1))))) true (Ob.cells true)) (5 : Int))))) true (Ob.cells true))), Value.int IntKind.i64 (0 :
  Int)]) = Value.agg (Array.mk [Value.int IntKind.i64 (pB (Row.mk (bCells s.2.1.1) false (Ob.cells true)) s.2.1.2 g.2 (bz s.2.2) (scB s.2.1.3) s.2.3 (Row.mk (List.take 400
  (List.drop 0 (bCells (padL (Row.mk (List.take 400 (List.drop (cellO (gC enB g.1) (0 + Int.toNat (↑s.1 : Int) * 1) + 0) (gCells (cellZ (gC enB g.1) (0 + Int.toNat (↑s.1 :
  Int) * 1))))) true (Ob.cells true)) (5 : Int))))) true (Ob.cells true))), Value.int IntKind.i64 (pC (Row.mk (bCells s.2.1.1) false (Ob.cells true)) s.2.1.2 g.2 (bz s.2.2)
  (scB s.2.1.3) s.2.3 (Row.mk (List.take 400 (List.drop 0 (bCells (padL (Row.mk (List.take 400 (List.drop (cellO (gC enB g.1) (0 + Int.toNat (↑s.1 : Int) * 1) + 0) (gCells
  (cellZ (gC enB g.1) (0 + Int.toNat (↑s.1 : Int) * 1))))) true (Ob.cells true)) (5 : Int))))) true (Ob.cells true))), Value.int IntKind.i64 (0 : Int)])) /\ ((Value.agg
  (Array.mk [Value.int IntKind.i64 (uB (Row.mk (bCells s.3.1.1) false (Ob.cells true)) s.3.1.2 g.2 (bz s.3.2) (scB s.3.1.3) s.3.3 (Row.mk (List.take 400 (List.drop (cellO
  (gC enB g.1) (0 + Int.toNat (↑s.1 : Int) * 1) + 0) (gCells (cellZ (gC enB g.1) (0 + Int.toNat (↑s.1 : Int) * 1))))) true (Ob.cells true))), Value.int IntKind.i64 (uC
  (Row.mk (bCells s.3.1.1) false (Ob.cells true)) s.3.1.2 g.2 (bz s.3.2) (scB s.3.1.3) s.3.3 (Row.mk (List.take 400 (List.drop (cellO (gC enB g.1) (0 + Int.toNat (↑s.1 :
  Int) * 1) + 0) (gCells (cellZ (gC enB g.1) (0 + Int.toNat (↑s.1 : Int) * 1))))) true (Ob.cells true))), Value.int IntKind.i64 (0 : Int)]) = Value.agg (Array.mk [Value.int
  IntKind.i64 (uB (Row.mk (bCells s.3.1.1) false (Ob.cells true)) s.3.1.2 g.2 (bz s.3.2) (scB s.3.1.3) s.3.3 (Row.mk (List.take 400 (List.drop (cellO (gC enB g.1) (0 +
  Int.toNat (↑s.1 : Int) * 1) + 0) (gCells (cellZ (gC enB g.1) (0 + Int.toNat (↑s.1 : Int) * 1))))) true (Ob.cells true))), Value.int IntKind.i64 (uC (Row.mk (bCells
  s.3.1.1) false (Ob.cells true)) s.3.1.2 g.2 (bz s.3.2) (scB s.3.1.3) s.3.3 (Row.mk (List.take 400 (List.drop (cellO (gC enB g.1) (0 + Int.toNat (↑s.1 : Int) * 1) + 0)
  (gCells (cellZ (gC enB g.1) (0 + Int.toNat (↑s.1 : Int) * 1))))) true (Ob.cells true))), Value.int IntKind.i64 (0 : Int)])) /\ ((Value.slice (some (Addr.mk 13 (0 + uK
  (Row.mk (bCells s.3.1.1) false (Ob.cells true)) s.3.1.2 g.2 (bz s.3.2) (scB s.3.1.3) s.3.3 (Row.mk (List.take 400 (List.drop (cellO (gC enB g.1) (0 + Int.toNat (↑s.1 :
  Int) * 1) + 0) (gCells (cellZ (gC enB g.1) (0 + Int.toNat (↑s.1 : Int) * 1))))) true (Ob.cells true))) none)) (uN (Row.mk (bCells s.3.1.1) false (Ob.cells true)) s.3.1.2
  g.2 (bz s.3.2) (scB s.3.1.3) s.3.3 (Row.mk (List.take 400 (List.drop (cellO (gC enB g.1) (0 + Int.toNat (↑s.1 : Int) * 1) + 0) (gCells (cellZ (gC enB g.1) (0 + Int.toNat
  (↑s.1 : Int) * 1))))) true (Ob.cells true))) 1 = Value.slice (some (Addr.mk 13 (0 + uK (Row.mk (bCells s.3.1.1) false (Ob.cells true)) s.3.1.2 g.2 (bz s.3.2) (scB s.3.1.3)
  s.3.3 (Row.mk (List.take 400 (List.drop (cellO (gC enB g.1) (0 + Int.toNat (↑s.1 : Int) * 1) + 0) (gCells (cellZ (gC enB g.1) (0 + Int.toNat (↑s.1 : Int) * 1))))) true
  (Ob.cells true))) none)) (uN (Row.mk (bCells s.3.1.1) false (Ob.cells true)) s.3.1.2 g.2 (bz s.3.2) (scB s.3.1.3) s.3.3 (Row.mk (List.take 400 (List.drop (cellO (gC enB
  g.1) (0 + Int.toNat (↑s.1 : Int) * 1) + 0) (gCells (cellZ (gC enB g.1) (0 + Int.toNat (↑s.1 : Int) * 1))))) true (Ob.cells true))) 1) /\ ((Value.slice (some (Addr.mk 13 (0
  + uK (Row.mk (bCells s.3.1.1) false (Ob.cells true)) s.3.1.2 g.2 (bz s.3.2) (scB s.3.1.3) s.3.3 (Row.mk (List.take 400 (List.drop (cellO (gC enB g.1) (0 + Int.toNat (↑s.1
  : Int) * 1) + 0) (gCells (cellZ (gC enB g.1) (0 + Int.toNat (↑s.1 : Int) * 1))))) true (Ob.cells true))) none)) (uN (Row.mk (bCells s.3.1.1) false (Ob.cells true)) s.3.1.2
  g.2 (bz s.3.2) (scB s.3.1.3) s.3.3 (Row.mk (List.take 400 (List.drop (cellO (gC enB g.1) (0 + Int.toNat (↑s.1 : Int) * 1) + 0) (gCells (cellZ (gC enB g.1) (0 + Int.toNat
  (↑s.1 : Int) * 1))))) true (Ob.cells true))) 1 = Value.slice (some (Addr.mk 13 (0 + uK (Row.mk (bCells s.3.1.1) false (Ob.cells true)) s.3.1.2 g.2 (bz s.3.2) (scB s.3.1.3)
  s.3.3 (Row.mk (List.take 400 (List.drop (cellO (gC enB g.1) (0 + Int.toNat (↑s.1 : Int) * 1) + 0) (gCells (cellZ (gC enB g.1) (0 + Int.toNat (↑s.1 : Int) * 1))))) true
  (Ob.cells true))) none)) (uN (Row.mk (bCells s.3.1.1) false (Ob.cells true)) s.3.1.2 g.2 (bz s.3.2) (scB s.3.1.3) s.3.3 (Row.mk (List.take 400 (List.drop (cellO (gC enB
  g.1) (0 + Int.toNat (↑s.1 : Int) * 1) + 0) (gCells (cellZ (gC enB g.1) (0 + Int.toNat (↑s.1 : Int) * 1))))) true (Ob.cells true))) 1) /\ (br (!inI (Row.mk (List.take 480
  (List.drop 0 (bCells (padL (Row.mk (List.take 400 (List.drop (cellO (gC enB g.1) (0 + Int.toNat (↑s.1 : Int) * 1) + 0) (gCells (cellZ (gC enB g.1) (0 + Int.toNat (↑s.1 :
  Int) * 1))))) true (Ob.cells true)) (5 : Int))))) true (Ob.cells true)) (Row.mk (List.take 400 (List.drop (cellO (gC enB g.1) (0 + Int.toNat (↑s.1 : Int) * 1) + 0) (gCells
  (cellZ (gC enB g.1) (0 + Int.toNat (↑s.1 : Int) * 1))))) true (Ob.cells true)) (5 : Int)) (∃ y : Unit, ((False) /\ ((false = false) /\ ((Eq (α := List Value) (gC enB g.1)
  (gC enB g.1)) /\ ((Plain (gC enB g.1)) /\ True))))) (∃ j : Sr, ((Inv j) /\ ((q j < q s) /\ ((0 = 0) /\ ((List.length g.1 = List.length g.1) /\ ((0 = 0) /\ ((0 = 0) /\
  (((↑j.1 : Int) = IntKind.wrap IntKind.i64 ((↑s.1 : Int) + (1 : Int))) /\ ((Eq (α := List Value) (gC enB g.1) (gC enB g.1)) /\ ((Plain (gC enB g.1)) /\ ((j.2.1.2 = 0 + pK
  (Row.mk (bCells s.2.1.1) false (Ob.cells true)) s.2.1.2 g.2 (bz s.2.2) (scB s.2.1.3) s.2.3 (Row.mk (List.take 400 (List.drop 0 (bCells (padL (Row.mk (List.take 400
  (List.drop (cellO (gC enB g.1) (0 + Int.toNat (↑s.1 : Int) * 1) + 0) (gCells (cellZ (gC enB g.1) (0 + Int.toNat (↑s.1 : Int) * 1))))) true (Ob.cells true)) (5 : Int)))))
  true (Ob.cells true))) /\ ((List.length j.2.1.1 - j.2.1.2 = pN (Row.mk (bCells s.2.1.1) false (Ob.cells true)) s.2.1.2 g.2 (bz s.2.2) (scB s.2.1.3) s.2.3 (Row.mk
  (List.take 400 (List.drop 0 (bCells (padL (Row.mk (List.take 400 (List.drop (cellO (gC enB g.1) (0 + Int.toNat (↑s.1 : Int) * 1) + 0) (gCells (cellZ (gC enB g.1) (0 +
  Int.toNat (↑s.1 : Int) * 1))))) true (Ob.cells true)) (5 : Int))))) true (Ob.cells true))) /\ ((g.2 = g.2) /\ ((bz j.2.2 = pT (Row.mk (bCells s.2.1.1) false (Ob.cells
  true)) s.2.1.2 g.2 (bz s.2.2) (scB s.2.1.3) s.2.3 (Row.mk (List.take 400 (List.drop 0 (bCells (padL (Row.mk (List.take 400 (List.drop (cellO (gC enB g.1) (0 + Int.toNat
  (↑s.1 : Int) * 1) + 0) (gCells (cellZ (gC enB g.1) (0 + Int.toNat (↑s.1 : Int) * 1))))) true (Ob.cells true)) (5 : Int))))) true (Ob.cells true))) /\ ((scB j.2.1.3 = pB
  (Row.mk (bCells s.2.1.1) false (Ob.cells true)) s.2.1.2 g.2 (bz s.2.2) (scB s.2.1.3) s.2.3 (Row.mk (List.take 400 (List.drop 0 (bCells (padL (Row.mk (List.take 400
  (List.drop (cellO (gC enB g.1) (0 + Int.toNat (↑s.1 : Int) * 1) + 0) (gCells (cellZ (gC enB g.1) (0 + Int.toNat (↑s.1 : Int) * 1))))) true (Ob.cells true)) (5 : Int)))))
  true (Ob.cells true))) /\ ((j.2.3 = pC (Row.mk (bCells s.2.1.1) false (Ob.cells true)) s.2.1.2 g.2 (bz s.2.2) (scB s.2.1.3) s.2.3 (Row.mk (List.take 400 (List.drop 0
  (bCells (padL (Row.mk (List.take 400 (List.drop (cellO (gC enB g.1) (0 + Int.toNat (↑s.1 : Int) * 1) + 0) (gCells (cellZ (gC enB g.1) (0 + Int.toNat (↑s.1 : Int) * 1)))))
  true (Ob.cells true)) (5 : Int))))) true (Ob.cells true))) /\ (((0 : Int) = (0 : Int)) /\ ((Eq (α := List Value) (bCells j.2.1.1) (bCells (pX (Row.mk (bCells s.2.1.1)
  false (Ob.cells true)) s.2.1.2 g.2 (bz s.2.2) (scB s.2.1.3) s.2.3 (Row.mk (List.take 400 (List.drop 0 (bCells (padL (Row.mk (List.take 400 (List.drop (cellO (gC enB g.1)
  (0 + Int.toNat (↑s.1 : Int) * 1) + 0) (gCells (cellZ (gC enB g.1) (0 + Int.toNat (↑s.1 : Int) * 1))))) true (Ob.cells true)) (5 : Int))))) true (Ob.cells true))))) /\
  ((Plain (bCells j.2.1.1)) /\ ((j.3.1.2 = 0 + uK (Row.mk (bCells s.3.1.1) false (Ob.cells true)) s.3.1.2 g.2 (bz s.3.2) (scB s.3.1.3) s.3.3 (Row.mk (List.take 400
  (List.drop (cellO (gC enB g.1) (0 + Int.toNat (↑s.1 : Int) * 1) + 0) (gCells (cellZ (gC enB g.1) (0 + Int.toNat (↑s.1 : Int) * 1))))) true (Ob.cells true))) /\
  ((List.length j.3.1.1 - j.3.1.2 = uN (Row.mk (bCells s.3.1.1) false (Ob.cells true)) s.3.1.2 g.2 (bz s.3.2) (scB s.3.1.3) s.3.3 (Row.mk (List.take 400 (List.drop (cellO
  (gC enB g.1) (0 + Int.toNat (↑s.1 : Int) * 1) + 0) (gCells (cellZ (gC enB g.1) (0 + Int.toNat (↑s.1 : Int) * 1))))) true (Ob.cells true))) /\ ((bz j.3.2 = uT (Row.mk
  (bCells s.3.1.1) false (Ob.cells true)) s.3.1.2 g.2 (bz s.3.2) (scB s.3.1.3) s.3.3 (Row.mk (List.take 400 (List.drop (cellO (gC enB g.1) (0 + Int.toNat (↑s.1 : Int) * 1) +
  0) (gCells (cellZ (gC enB g.1) (0 + Int.toNat (↑s.1 : Int) * 1))))) true (Ob.cells true))) /\ ((g.2 = g.2) /\ ((scB j.3.1.3 = uB (Row.mk (bCells s.3.1.1) false (Ob.cells
  true)) s.3.1.2 g.2 (bz s.3.2) (scB s.3.1.3) s.3.3 (Row.mk (List.take 400 (List.drop (cellO (gC enB g.1) (0 + Int.toNat (↑s.1 : Int) * 1) + 0) (gCells (cellZ (gC enB g.1)
  (0 + Int.toNat (↑s.1 : Int) * 1))))) true (Ob.cells true))) /\ ((j.3.3 = uC (Row.mk (bCells s.3.1.1) false (Ob.cells true)) s.3.1.2 g.2 (bz s.3.2) (scB s.3.1.3) s.3.3
  (Row.mk (List.take 400 (List.drop (cellO (gC enB g.1) (0 + Int.toNat (↑s.1 : Int) * 1) + 0) (gCells (cellZ (gC enB g.1) (0 + Int.toNat (↑s.1 : Int) * 1))))) true (Ob.cells
  true))) /\ (((0 : Int) = (0 : Int)) /\ ((Eq (α := List Value) (bCells j.3.1.1) (bCells (uX (Row.mk (bCells s.3.1.1) false (Ob.cells true)) s.3.1.2 g.2 (bz s.3.2) (scB
  s.3.1.3) s.3.3 (Row.mk (List.take 400 (List.drop (cellO (gC enB g.1) (0 + Int.toNat (↑s.1 : Int) * 1) + 0) (gCells (cellZ (gC enB g.1) (0 + Int.toNat (↑s.1 : Int) * 1)))))
  true (Ob.cells true))))) /\ ((Plain (bCells j.3.1.1)) /\ True))))))))))))))))))))))))))))))))))))))))) False) ((((cellO (gC enB g.1) (0 + Int.toNat (↑s.1 : Int) * 1) +
  cellN (gC enB g.1) (0 + Int.toNat (↑s.1 : Int) * 1) * 1 <= List.length (gCells (cellZ (gC enB g.1) (0 + Int.toNat (↑s.1 : Int) * 1))) /\ (True /\ True)) /\ ((True /\ True)
  /\ ((Plain (bCells (padL (Row.mk (List.take (cellN (gC enB g.1) (0 + Int.toNat (↑s.1 : Int) * 1) * 1) (List.drop (cellO (gC enB g.1) (0 + Int.toNat (↑s.1 : Int) * 1))
  (gCells (cellZ (gC enB g.1) (0 + Int.toNat (↑s.1 : Int) * 1))))) true (Ob.cells true)) (5 : Int))) /\ True) /\ (IsB (Row.mk (List.take (cellN (gC enB g.1) (0 + Int.toNat
  (↑s.1 : Int) * 1) * 1) (List.drop (cellO (gC enB g.1) (0 + Int.toNat (↑s.1 : Int) * 1)) (gCells (cellZ (gC enB g.1) (0 + Int.toNat (↑s.1 : Int) * 1))))) true (Ob.cells
  true)) (cellN (gC enB g.1) (0 + Int.toNat (↑s.1 : Int) * 1)) /\ (IsU8 (5 : Int) /\ cellN (gC enB g.1) (0 + Int.toNat (↑s.1 : Int) * 1) <= 16777136)))))) /\ (br (decide ((0
  : Int) <= (↑0 : Int) /\ (0 : Int) <= Int.ofNat (cellN (gC enB g.1) (0 + Int.toNat (↑s.1 : Int) * 1)) /\ Int.ofNat (cellN (gC enB g.1) (0 + Int.toNat (↑s.1 : Int) * 1)) <=
  (↑(cellN (gC enB g.1) (0 + Int.toNat (↑s.1 : Int) * 1) + 80) : Int))) ((((True /\ ((0 + (Int.toNat (Int.ofNat (cellN (gC enB g.1) (0 + Int.toNat (↑s.1 : Int) * 1))) - 0) *
  1 <= List.length (bCells (padL (Row.mk (List.take (cellN (gC enB g.1) (0 + Int.toNat (↑s.1 : Int) * 1) * 1) (List.drop (cellO (gC enB g.1) (0 + Int.toNat (↑s.1 : Int) *
  1)) (gCells (cellZ (gC enB g.1) (0 + Int.toNat (↑s.1 : Int) * 1))))) true (Ob.cells true)) (5 : Int))) /\ Plain (List.take ((Int.toNat (Int.ofNat (cellN (gC enB g.1) (0 +
  Int.toNat (↑s.1 : Int) * 1))) - 0) * 1) (List.drop 0 (bCells (padL (Row.mk (List.take (cellN (gC enB g.1) (0 + Int.toNat (↑s.1 : Int) * 1) * 1) (List.drop (cellO (gC enB
  g.1) (0 + Int.toNat (↑s.1 : Int) * 1)) (gCells (cellZ (gC enB g.1) (0 + Int.toNat (↑s.1 : Int) * 1))))) true (Ob.cells true)) (5 : Int)))))) /\ True)) /\ (((True /\ (True
  /\ (True /\ (True /\ (True /\ (True /\ True)))))) /\ (True /\ (Plain (bCells s.2.1.1) /\ True))) /\ ((Plain (bCells (pX (Row.mk (bCells s.2.1.1) false (Ob.cells true))
  s.2.1.2 g.2 (bz s.2.2) (scB s.2.1.3) s.2.3 (Row.mk (List.take ((Int.toNat (Int.ofNat (cellN (gC enB g.1) (0 + Int.toNat (↑s.1 : Int) * 1))) - 0) * 1) (List.drop 0 (bCells
  (padL (Row.mk (List.take (cellN (gC enB g.1) (0 + Int.toNat (↑s.1 : Int) * 1) * 1) (List.drop (cellO (gC enB g.1) (0 + Int.toNat (↑s.1 : Int) * 1)) (gCells (cellZ (gC enB
  g.1) (0 + Int.toNat (↑s.1 : Int) * 1))))) true (Ob.cells true)) (5 : Int))))) true (Ob.cells true)))) /\ (Plain (gC enG (pL (Row.mk (bCells s.2.1.1) false (Ob.cells true))
  s.2.1.2 g.2 (bz s.2.2) (scB s.2.1.3) s.2.3 (Row.mk (List.take ((Int.toNat (Int.ofNat (cellN (gC enB g.1) (0 + Int.toNat (↑s.1 : Int) * 1))) - 0) * 1) (List.drop 0 (bCells
  (padL (Row.mk (List.take (cellN (gC enB g.1) (0 + Int.toNat (↑s.1 : Int) * 1) * 1) (List.drop (cellO (gC enB g.1) (0 + Int.toNat (↑s.1 : Int) * 1)) (gCells (cellZ (gC enB
  g.1) (0 + Int.toNat (↑s.1 : Int) * 1))))) true (Ob.cells true)) (5 : Int))))) true (Ob.cells true)))) /\ True)) /\ IsQ (Row.mk (bCells s.2.1.1) false (Ob.cells true))
  s.2.1.2 (List.length s.2.1.1 - s.2.1.2) (bz s.2.2) (scB s.2.1.3) s.2.3 (Row.mk (List.take ((Int.toNat (Int.ofNat (cellN (gC enB g.1) (0 + Int.toNat (↑s.1 : Int) * 1))) -
  0) * 1) (List.drop 0 (bCells (padL (Row.mk (List.take (cellN (gC enB g.1) (0 + Int.toNat (↑s.1 : Int) * 1) * 1) (List.drop (cellO (gC enB g.1) (0 + Int.toNat (↑s.1 : Int)
  * 1)) (gCells (cellZ (gC enB g.1) (0 + Int.toNat (↑s.1 : Int) * 1))))) true (Ob.cells true)) (5 : Int))))) true (Ob.cells true)) (Int.toNat (Int.ofNat (cellN (gC enB g.1)
  (0 + Int.toNat (↑s.1 : Int) * 1))) - 0))))) /\ ((((True /\ (cellO (gC enB g.1) (0 + Int.toNat (↑s.1 : Int) * 1) + cellN (gC enB g.1) (0 + Int.toNat (↑s.1 : Int) * 1) * 1
  <= List.length (gCells (cellZ (gC enB g.1) (0 + Int.toNat (↑s.1 : Int) * 1))) /\ True)) /\ (((True /\ (True /\ (True /\ (True /\ (True /\ (True /\ True)))))) /\ (True /\
  (Plain (bCells s.3.1.1) /\ True))) /\ ((Plain (bCells (uX (Row.mk (bCells s.3.1.1) false (Ob.cells true)) s.3.1.2 g.2 (bz s.3.2) (scB s.3.1.3) s.3.3 (Row.mk (List.take
  (cellN (gC enB g.1) (0 + Int.toNat (↑s.1 : Int) * 1) * 1) (List.drop (cellO (gC enB g.1) (0 + Int.toNat (↑s.1 : Int) * 1)) (gCells (cellZ (gC enB g.1) (0 + Int.toNat (↑s.1
  : Int) * 1))))) true (Ob.cells true)))) /\ (Plain (gC enG (uL (Row.mk (bCells s.3.1.1) false (Ob.cells true)) s.3.1.2 g.2 (bz s.3.2) (scB s.3.1.3) s.3.3 (Row.mk (List.take
  (cellN (gC enB g.1) (0 + Int.toNat (↑s.1 : Int) * 1) * 1) (List.drop (cellO (gC enB g.1) (0 + Int.toNat (↑s.1 : Int) * 1)) (gCells (cellZ (gC enB g.1) (0 + Int.toNat (↑s.1
  : Int) * 1))))) true (Ob.cells true)))) /\ True)) /\ IsQ (Row.mk (bCells s.3.1.1) false (Ob.cells true)) s.3.1.2 (List.length s.3.1.1 - s.3.1.2) (bz s.3.2) (scB s.3.1.3)
  s.3.3 (Row.mk (List.take (cellN (gC enB g.1) (0 + Int.toNat (↑s.1 : Int) * 1) * 1) (List.drop (cellO (gC enB g.1) (0 + Int.toNat (↑s.1 : Int) * 1)) (gCells (cellZ (gC enB
  g.1) (0 + Int.toNat (↑s.1 : Int) * 1))))) true (Ob.cells true)) (cellN (gC enB g.1) (0 + Int.toNat (↑s.1 : Int) * 1)))))) /\ (((((0 + pM (Row.mk (bCells s.2.1.1) false
  (Ob.cells true)) s.2.1.2 g.2 (bz s.2.2) (scB s.2.1.3) s.2.3 (Row.mk (List.take ((Int.toNat (Int.ofNat (cellN (gC enB g.1) (0 + Int.toNat (↑s.1 : Int) * 1))) - 0) * 1)
  (List.drop 0 (bCells (padL (Row.mk (List.take (cellN (gC enB g.1) (0 + Int.toNat (↑s.1 : Int) * 1) * 1) (List.drop (cellO (gC enB g.1) (0 + Int.toNat (↑s.1 : Int) * 1))
  (gCells (cellZ (gC enB g.1) (0 + Int.toNat (↑s.1 : Int) * 1))))) true (Ob.cells true)) (5 : Int))))) true (Ob.cells true)) * 4 <= List.length (gC enG (pL (Row.mk (bCells
  s.2.1.1) false (Ob.cells true)) s.2.1.2 g.2 (bz s.2.2) (scB s.2.1.3) s.2.3 (Row.mk (List.take ((Int.toNat (Int.ofNat (cellN (gC enB g.1) (0 + Int.toNat (↑s.1 : Int) * 1)))
  - 0) * 1) (List.drop 0 (bCells (padL (Row.mk (List.take (cellN (gC enB g.1) (0 + Int.toNat (↑s.1 : Int) * 1) * 1) (List.drop (cellO (gC enB g.1) (0 + Int.toNat (↑s.1 :
  Int) * 1)) (gCells (cellZ (gC enB g.1) (0 + Int.toNat (↑s.1 : Int) * 1))))) true (Ob.cells true)) (5 : Int))))) true (Ob.cells true)))) /\ Plain (List.take (pM (Row.mk
  (bCells s.2.1.1) false (Ob.cells true)) s.2.1.2 g.2 (bz s.2.2) (scB s.2.1.3) s.2.3 (Row.mk (List.take ((Int.toNat (Int.ofNat (cellN (gC enB g.1) (0 + Int.toNat (↑s.1 :
  Int) * 1))) - 0) * 1) (List.drop 0 (bCells (padL (Row.mk (List.take (cellN (gC enB g.1) (0 + Int.toNat (↑s.1 : Int) * 1) * 1) (List.drop (cellO (gC enB g.1) (0 + Int.toNat
  (↑s.1 : Int) * 1)) (gCells (cellZ (gC enB g.1) (0 + Int.toNat (↑s.1 : Int) * 1))))) true (Ob.cells true)) (5 : Int))))) true (Ob.cells true)) * 4) (List.drop 0 (gC enG (pL
  (Row.mk (bCells s.2.1.1) false (Ob.cells true)) s.2.1.2 g.2 (bz s.2.2) (scB s.2.1.3) s.2.3 (Row.mk (List.take ((Int.toNat (Int.ofNat (cellN (gC enB g.1) (0 + Int.toNat
  (↑s.1 : Int) * 1))) - 0) * 1) (List.drop 0 (bCells (padL (Row.mk (List.take (cellN (gC enB g.1) (0 + Int.toNat (↑s.1 : Int) * 1) * 1) (List.drop (cellO (gC enB g.1) (0 +
  Int.toNat (↑s.1 : Int) * 1)) (gCells (cellZ (gC enB g.1) (0 + Int.toNat (↑s.1 : Int) * 1))))) true (Ob.cells true)) (5 : Int))))) true (Ob.cells true))))))) /\ ((0 + uM
  (Row.mk (bCells s.3.1.1) false (Ob.cells true)) s.3.1.2 g.2 (bz s.3.2) (scB s.3.1.3) s.3.3 (Row.mk (List.take (cellN (gC enB g.1) (0 + Int.toNat (↑s.1 : Int) * 1) * 1)
  (List.drop (cellO (gC enB g.1) (0 + Int.toNat (↑s.1 : Int) * 1)) (gCells (cellZ (gC enB g.1) (0 + Int.toNat (↑s.1 : Int) * 1))))) true (Ob.cells true)) * 4 <= List.length
  (gC enG (uL (Row.mk (bCells s.3.1.1) false (Ob.cells true)) s.3.1.2 g.2 (bz s.3.2) (scB s.3.1.3) s.3.3 (Row.mk (List.take (cellN (gC enB g.1) (0 + Int.toNat (↑s.1 : Int) *
  1) * 1) (List.drop (cellO (gC enB g.1) (0 + Int.toNat (↑s.1 : Int) * 1)) (gCells (cellZ (gC enB g.1) (0 + Int.toNat (↑s.1 : Int) * 1))))) true (Ob.cells true)))) /\ Plain
  (List.take (uM (Row.mk (bCells s.3.1.1) false (Ob.cells true)) s.3.1.2 g.2 (bz s.3.2) (scB s.3.1.3) s.3.3 (Row.mk (List.take (cellN (gC enB g.1) (0 + Int.toNat (↑s.1 :
  Int) * 1) * 1) (List.drop (cellO (gC enB g.1) (0 + Int.toNat (↑s.1 : Int) * 1)) (gCells (cellZ (gC enB g.1) (0 + Int.toNat (↑s.1 : Int) * 1))))) true (Ob.cells true)) * 4)
  (List.drop 0 (gC enG (uL (Row.mk (bCells s.3.1.1) false (Ob.cells true)) s.3.1.2 g.2 (bz s.3.2) (scB s.3.1.3) s.3.3 (Row.mk (List.take (cellN (gC enB g.1) (0 + Int.toNat
  (↑s.1 : Int) * 1) * 1) (List.drop (cellO (gC enB g.1) (0 + Int.toNat (↑s.1 : Int) * 1)) (gCells (cellZ (gC enB g.1) (0 + Int.toNat (↑s.1 : Int) * 1))))) true (Ob.cells
  true))))))) /\ True)) /\ ((True /\ (True /\ True)) /\ (True /\ (IsF (Row.mk (List.take (pM (Row.mk (bCells s.2.1.1) false (Ob.cells true)) s.2.1.2 g.2 (bz s.2.2) (scB
  s.2.1.3) s.2.3 (Row.mk (List.take ((Int.toNat (Int.ofNat (cellN (gC enB g.1) (0 + Int.toNat (↑s.1 : Int) * 1))) - 0) * 1) (List.drop 0 (bCells (padL (Row.mk (List.take
  (cellN (gC enB g.1) (0 + Int.toNat (↑s.1 : Int) * 1) * 1) (List.drop (cellO (gC enB g.1) (0 + Int.toNat (↑s.1 : Int) * 1)) (gCells (cellZ (gC enB g.1) (0 + Int.toNat (↑s.1
  : Int) * 1))))) true (Ob.cells true)) (5 : Int))))) true (Ob.cells true)) * 4) (List.drop 0 (gC enG (pL (Row.mk (bCells s.2.1.1) false (Ob.cells true)) s.2.1.2 g.2 (bz
  s.2.2) (scB s.2.1.3) s.2.3 (Row.mk (List.take ((Int.toNat (Int.ofNat (cellN (gC enB g.1) (0 + Int.toNat (↑s.1 : Int) * 1))) - 0) * 1) (List.drop 0 (bCells (padL (Row.mk
  (List.take (cellN (gC enB g.1) (0 + Int.toNat (↑s.1 : Int) * 1) * 1) (List.drop (cellO (gC enB g.1) (0 + Int.toNat (↑s.1 : Int) * 1)) (gCells (cellZ (gC enB g.1) (0 +
  Int.toNat (↑s.1 : Int) * 1))))) true (Ob.cells true)) (5 : Int))))) true (Ob.cells true)))))) true (Ob.cells true)) (pM (Row.mk (bCells s.2.1.1) false (Ob.cells true))
  s.2.1.2 g.2 (bz s.2.2) (scB s.2.1.3) s.2.3 (Row.mk (List.take ((Int.toNat (Int.ofNat (cellN (gC enB g.1) (0 + Int.toNat (↑s.1 : Int) * 1))) - 0) * 1) (List.drop 0 (bCells
  (padL (Row.mk (List.take (cellN (gC enB g.1) (0 + Int.toNat (↑s.1 : Int) * 1) * 1) (List.drop (cellO (gC enB g.1) (0 + Int.toNat (↑s.1 : Int) * 1)) (gCells (cellZ (gC enB
  g.1) (0 + Int.toNat (↑s.1 : Int) * 1))))) true (Ob.cells true)) (5 : Int))))) true (Ob.cells true))) /\ (IsF (Row.mk (List.take (uM (Row.mk (bCells s.3.1.1) false
  (Ob.cells true)) s.3.1.2 g.2 (bz s.3.2) (scB s.3.1.3) s.3.3 (Row.mk (List.take (cellN (gC enB g.1) (0 + Int.toNat (↑s.1 : Int) * 1) * 1) (List.drop (cellO (gC enB g.1) (0
  + Int.toNat (↑s.1 : Int) * 1)) (gCells (cellZ (gC enB g.1) (0 + Int.toNat (↑s.1 : Int) * 1))))) true (Ob.cells true)) * 4) (List.drop 0 (gC enG (uL (Row.mk (bCells
  s.3.1.1) false (Ob.cells true)) s.3.1.2 g.2 (bz s.3.2) (scB s.3.1.3) s.3.3 (Row.mk (List.take (cellN (gC enB g.1) (0 + Int.toNat (↑s.1 : Int) * 1) * 1) (List.drop (cellO
  (gC enB g.1) (0 + Int.toNat (↑s.1 : Int) * 1)) (gCells (cellZ (gC enB g.1) (0 + Int.toNat (↑s.1 : Int) * 1))))) true (Ob.cells true)))))) true (Ob.cells true)) (uM (Row.mk
  (bCells s.3.1.1) false (Ob.cells true)) s.3.1.2 g.2 (bz s.3.2) (scB s.3.1.3) s.3.3 (Row.mk (List.take (cellN (gC enB g.1) (0 + Int.toNat (↑s.1 : Int) * 1) * 1) (List.drop
  (cellO (gC enB g.1) (0 + Int.toNat (↑s.1 : Int) * 1)) (gCells (cellZ (gC enB g.1) (0 + Int.toNat (↑s.1 : Int) * 1))))) true (Ob.cells true))) /\ pM (Row.mk (bCells
  s.2.1.1) false (Ob.cells true)) s.2.1.2 g.2 (bz s.2.2) (scB s.2.1.3) s.2.3 (Row.mk (List.take ((Int.toNat (Int.ofNat (cellN (gC enB g.1) (0 + Int.toNat (↑s.1 : Int) * 1)))
  - 0) * 1) (List.drop 0 (bCells (padL (Row.mk (List.take (cellN (gC enB g.1) (0 + Int.toNat (↑s.1 : Int) * 1) * 1) (List.drop (cellO (gC enB g.1) (0 + Int.toNat (↑s.1 :
  Int) * 1)) (gCells (cellZ (gC enB g.1) (0 + Int.toNat (↑s.1 : Int) * 1))))) true (Ob.cells true)) (5 : Int))))) true (Ob.cells true)) <= 9223372036854775807)))))) /\ (br
  (!zF (Row.mk (List.take (pM (Row.mk (bCells s.2.1.1) false (Ob.cells true)) s.2.1.2 g.2 (bz s.2.2) (scB s.2.1.3) s.2.3 (Row.mk (List.take ((Int.toNat (Int.ofNat (cellN (gC
  enB g.1) (0 + Int.toNat (↑s.1 : Int) * 1))) - 0) * 1) (List.drop 0 (bCells (padL (Row.mk (List.take (cellN (gC enB g.1) (0 + Int.toNat (↑s.1 : Int) * 1) * 1) (List.drop
  (cellO (gC enB g.1) (0 + Int.toNat (↑s.1 : Int) * 1)) (gCells (cellZ (gC enB g.1) (0 + Int.toNat (↑s.1 : Int) * 1))))) true (Ob.cells true)) (5 : Int))))) true (Ob.cells
  true)) * 4) (List.drop 0 (gC enG (pL (Row.mk (bCells s.2.1.1) false (Ob.cells true)) s.2.1.2 g.2 (bz s.2.2) (scB s.2.1.3) s.2.3 (Row.mk (List.take ((Int.toNat (Int.ofNat
  (cellN (gC enB g.1) (0 + Int.toNat (↑s.1 : Int) * 1))) - 0) * 1) (List.drop 0 (bCells (padL (Row.mk (List.take (cellN (gC enB g.1) (0 + Int.toNat (↑s.1 : Int) * 1) * 1)
  (List.drop (cellO (gC enB g.1) (0 + Int.toNat (↑s.1 : Int) * 1)) (gCells (cellZ (gC enB g.1) (0 + Int.toNat (↑s.1 : Int) * 1))))) true (Ob.cells true)) (5 : Int))))) true
  (Ob.cells true)))))) true (Ob.cells true)) (Row.mk (List.take (uM (Row.mk (bCells s.3.1.1) false (Ob.cells true)) s.3.1.2 g.2 (bz s.3.2) (scB s.3.1.3) s.3.3 (Row.mk
  (List.take (cellN (gC enB g.1) (0 + Int.toNat (↑s.1 : Int) * 1) * 1) (List.drop (cellO (gC enB g.1) (0 + Int.toNat (↑s.1 : Int) * 1)) (gCells (cellZ (gC enB g.1) (0 +
  Int.toNat (↑s.1 : Int) * 1))))) true (Ob.cells true)) * 4) (List.drop 0 (gC enG (uL (Row.mk (bCells s.3.1.1) false (Ob.cells true)) s.3.1.2 g.2 (bz s.3.2) (scB s.3.1.3)
  s.3.3 (Row.mk (List.take (cellN (gC enB g.1) (0 + Int.toNat (↑s.1 : Int) * 1) * 1) (List.drop (cellO (gC enB g.1) (0 + Int.toNat (↑s.1 : Int) * 1)) (gCells (cellZ (gC enB
  g.1) (0 + Int.toNat (↑s.1 : Int) * 1))))) true (Ob.cells true)))))) true (Ob.cells true))) (∃ y : Unit, ((False) /\ ((false = false) /\ ((Eq (α := List Value) (gC enB g.1)
  (gC enB g.1)) /\ ((Plain (gC enB g.1)) /\ True))))) (br (!(pB (Row.mk (bCells s.2.1.1) false (Ob.cells true)) s.2.1.2 g.2 (bz s.2.2) (scB s.2.1.3) s.2.3 (Row.mk (List.take
  ((Int.toNat (Int.ofNat (cellN (gC enB g.1) (0 + Int.toNat (↑s.1 : Int) * 1))) - 0) * 1) (List.drop 0 (bCells (padL (Row.mk (List.take (cellN (gC enB g.1) (0 + Int.toNat
  (↑s.1 : Int) * 1) * 1) (List.drop (cellO (gC enB g.1) (0 + Int.toNat (↑s.1 : Int) * 1)) (gCells (cellZ (gC enB g.1) (0 + Int.toNat (↑s.1 : Int) * 1))))) true (Ob.cells
  true)) (5 : Int))))) true (Ob.cells true)) == uB (Row.mk (bCells s.3.1.1) false (Ob.cells true)) s.3.1.2 g.2 (bz s.3.2) (scB s.3.1.3) s.3.3 (Row.mk (List.take (cellN (gC
  enB g.1) (0 + Int.toNat (↑s.1 : Int) * 1) * 1) (List.drop (cellO (gC enB g.1) (0 + Int.toNat (↑s.1 : Int) * 1)) (gCells (cellZ (gC enB g.1) (0 + Int.toNat (↑s.1 : Int) *
  1))))) true (Ob.cells true)) && (pC (Row.mk (bCells s.2.1.1) false (Ob.cells true)) s.2.1.2 g.2 (bz s.2.2) (scB s.2.1.3) s.2.3 (Row.mk (List.take ((Int.toNat (Int.ofNat
  (cellN (gC enB g.1) (0 + Int.toNat (↑s.1 : Int) * 1))) - 0) * 1) (List.drop 0 (bCells (padL (Row.mk (List.take (cellN (gC enB g.1) (0 + Int.toNat (↑s.1 : Int) * 1) * 1)
  (List.drop (cellO (gC enB g.1) (0 + Int.toNat (↑s.1 : Int) * 1)) (gCells (cellZ (gC enB g.1) (0 + Int.toNat (↑s.1 : Int) * 1))))) true (Ob.cells true)) (5 : Int))))) true
  (Ob.cells true)) == uC (Row.mk (bCells s.3.1.1) false (Ob.cells true)) s.3.1.2 g.2 (bz s.3.2) (scB s.3.1.3) s.3.3 (Row.mk (List.take (cellN (gC enB g.1) (0 + Int.toNat
  (↑s.1 : Int) * 1) * 1) (List.drop (cellO (gC enB g.1) (0 + Int.toNat (↑s.1 : Int) * 1)) (gCells (cellZ (gC enB g.1) (0 + Int.toNat (↑s.1 : Int) * 1))))) true (Ob.cells
  true)) && true))) ((Value.agg (Array.mk [Value.int IntKind.i64 (pB (Row.mk (bCells s.2.1.1) false (Ob.cells true)) s.2.1.2 g.2 (bz s.2.2) (scB s.2.1.3) s.2.3 (Row.mk
  (List.take ((Int.toNat (Int.ofNat (cellN (gC enB g.1) (0 + Int.toNat (↑s.1 : Int) * 1))) - 0) * 1) (List.drop 0 (bCells (padL (Row.mk (List.take (cellN (gC enB g.1) (0 +
  Int.toNat (↑s.1 : Int) * 1) * 1) (List.drop (cellO (gC enB g.1) (0 + Int.toNat (↑s.1 : Int) * 1)) (gCells (cellZ (gC enB g.1) (0 + Int.toNat (↑s.1 : Int) * 1))))) true
  (Ob.cells true)) (5 : Int))))) true (Ob.cells true))), Value.int IntKind.i64 (pC (Row.mk (bCells s.2.1.1) false (Ob.cells true)) s.2.1.2 g.2 (bz s.2.2) (scB s.2.1.3) s.2.3
  (Row.mk (List.take ((Int.toNat (Int.ofNat (cellN (gC enB g.1) (0 + Int.toNat (↑s.1 : Int) * 1))) - 0) * 1) (List.drop 0 (bCells (padL (Row.mk (List.take (cellN (gC enB
  g.1) (0 + Int.toNat (↑s.1 : Int) * 1) * 1) (List.drop (cellO (gC enB g.1) (0 + Int.toNat (↑s.1 : Int) * 1)) (gCells (cellZ (gC enB g.1) (0 + Int.toNat (↑s.1 : Int) *
  1))))) true (Ob.cells true)) (5 : Int))))) true (Ob.cells true))), Value.int IntKind.i64 (0 : Int)]) = Value.agg (Array.mk [Value.int IntKind.i64 (pB (Row.mk (bCells
  s.2.1.1) false (Ob.cells true)) s.2.1.2 g.2 (bz s.2.2) (scB s.2.1.3) s.2.3 (Row.mk (List.take ((Int.toNat (Int.ofNat (cellN (gC enB g.1) (0 + Int.toNat (↑s.1 : Int) * 1)))
  - 0) * 1) (List.drop 0 (bCells (padL (Row.mk (List.take (cellN (gC enB g.1) (0 + Int.toNat (↑s.1 : Int) * 1) * 1) (List.drop (cellO (gC enB g.1) (0 + Int.toNat (↑s.1 :
  Int) * 1)) (gCells (cellZ (gC enB g.1) (0 + Int.toNat (↑s.1 : Int) * 1))))) true (Ob.cells true)) (5 : Int))))) true (Ob.cells true))), Value.int IntKind.i64 (pC (Row.mk
  (bCells s.2.1.1) false (Ob.cells true)) s.2.1.2 g.2 (bz s.2.2) (scB s.2.1.3) s.2.3 (Row.mk (List.take ((Int.toNat (Int.ofNat (cellN (gC enB g.1) (0 + Int.toNat (↑s.1 :
  Int) * 1))) - 0) * 1) (List.drop 0 (bCells (padL (Row.mk (List.take (cellN (gC enB g.1) (0 + Int.toNat (↑s.1 : Int) * 1) * 1) (List.drop (cellO (gC enB g.1) (0 + Int.toNat
  (↑s.1 : Int) * 1)) (gCells (cellZ (gC enB g.1) (0 + Int.toNat (↑s.1 : Int) * 1))))) true (Ob.cells true)) (5 : Int))))) true (Ob.cells true))), Value.int IntKind.i64 (0 :
  Int)])) /\ ((Value.agg (Array.mk [Value.int IntKind.i64 (uB (Row.mk (bCells s.3.1.1) false (Ob.cells true)) s.3.1.2 g.2 (bz s.3.2) (scB s.3.1.3) s.3.3 (Row.mk (List.take
  (cellN (gC enB g.1) (0 + Int.toNat (↑s.1 : Int) * 1) * 1) (List.drop (cellO (gC enB g.1) (0 + Int.toNat (↑s.1 : Int) * 1)) (gCells (cellZ (gC enB g.1) (0 + Int.toNat (↑s.1
  : Int) * 1))))) true (Ob.cells true))), Value.int IntKind.i64 (uC (Row.mk (bCells s.3.1.1) false (Ob.cells true)) s.3.1.2 g.2 (bz s.3.2) (scB s.3.1.3) s.3.3 (Row.mk
  (List.take (cellN (gC enB g.1) (0 + Int.toNat (↑s.1 : Int) * 1) * 1) (List.drop (cellO (gC enB g.1) (0 + Int.toNat (↑s.1 : Int) * 1)) (gCells (cellZ (gC enB g.1) (0 +
  Int.toNat (↑s.1 : Int) * 1))))) true (Ob.cells true))), Value.int IntKind.i64 (0 : Int)]) = Value.agg (Array.mk [Value.int IntKind.i64 (uB (Row.mk (bCells s.3.1.1) false
  (Ob.cells true)) s.3.1.2 g.2 (bz s.3.2) (scB s.3.1.3) s.3.3 (Row.mk (List.take (cellN (gC enB g.1) (0 + Int.toNat (↑s.1 : Int) * 1) * 1) (List.drop (cellO (gC enB g.1) (0
  + Int.toNat (↑s.1 : Int) * 1)) (gCells (cellZ (gC enB g.1) (0 + Int.toNat (↑s.1 : Int) * 1))))) true (Ob.cells true))), Value.int IntKind.i64 (uC (Row.mk (bCells s.3.1.1)
  false (Ob.cells true)) s.3.1.2 g.2 (bz s.3.2) (scB s.3.1.3) s.3.3 (Row.mk (List.take (cellN (gC enB g.1) (0 + Int.toNat (↑s.1 : Int) * 1) * 1) (List.drop (cellO (gC enB
  g.1) (0 + Int.toNat (↑s.1 : Int) * 1)) (gCells (cellZ (gC enB g.1) (0 + Int.toNat (↑s.1 : Int) * 1))))) true (Ob.cells true))), Value.int IntKind.i64 (0 : Int)])) /\ (∃ y
  : Unit, ((False) /\ ((false = false) /\ ((Eq (α := List Value) (gC enB g.1) (gC enB g.1)) /\ ((Plain (gC enB g.1)) /\ True))))))) (br (Int.ofNat (pN (Row.mk (bCells
  s.2.1.1) false (Ob.cells true)) s.2.1.2 g.2 (bz s.2.2) (scB s.2.1.3) s.2.3 (Row.mk (List.take ((Int.toNat (Int.ofNat (cellN (gC enB g.1) (0 + Int.toNat (↑s.1 : Int) * 1)))
  - 0) * 1) (List.drop 0 (bCells (padL (Row.mk (List.take (cellN (gC enB g.1) (0 + Int.toNat (↑s.1 : Int) * 1) * 1) (List.drop (cellO (gC enB g.1) (0 + Int.toNat (↑s.1 :
  Int) * 1)) (gCells (cellZ (gC enB g.1) (0 + Int.toNat (↑s.1 : Int) * 1))))) true (Ob.cells true)) (5 : Int))))) true (Ob.cells true))) != Int.ofNat (uN (Row.mk (bCells
  s.3.1.1) false (Ob.cells true)) s.3.1.2 g.2 (bz s.3.2) (scB s.3.1.3) s.3.3 (Row.mk (List.take (cellN (gC enB g.1) (0 + Int.toNat (↑s.1 : Int) * 1) * 1) (List.drop (cellO
  (gC enB g.1) (0 + Int.toNat (↑s.1 : Int) * 1)) (gCells (cellZ (gC enB g.1) (0 + Int.toNat (↑s.1 : Int) * 1))))) true (Ob.cells true)))) ((Value.agg (Array.mk [Value.int
  IntKind.i64 (pB (Row.mk (bCells s.2.1.1) false (Ob.cells true)) s.2.1.2 g.2 (bz s.2.2) (scB s.2.1.3) s.2.3 (Row.mk (List.take ((Int.toNat (Int.ofNat (cellN (gC enB g.1) (0
  + Int.toNat (↑s.1 : Int) * 1))) - 0) * 1) (List.drop 0 (bCells (padL (Row.mk (List.take (cellN (gC enB g.1) (0 + Int.toNat (↑s.1 : Int) * 1) * 1) (List.drop (cellO (gC enB
  g.1) (0 + Int.toNat (↑s.1 : Int) * 1)) (gCells (cellZ (gC enB g.1) (0 + Int.toNat (↑s.1 : Int) * 1))))) true (Ob.cells true)) (5 : Int))))) true (Ob.cells true))),
  Value.int IntKind.i64 (pC (Row.mk (bCells s.2.1.1) false (Ob.cells true)) s.2.1.2 g.2 (bz s.2.2) (scB s.2.1.3) s.2.3 (Row.mk (List.take ((Int.toNat (Int.ofNat (cellN (gC
  enB g.1) (0 + Int.toNat (↑s.1 : Int) * 1))) - 0) * 1) (List.drop 0 (bCells (padL (Row.mk (List.take (cellN (gC enB g.1) (0 + Int.toNat (↑s.1 : Int) * 1) * 1) (List.drop
  (cellO (gC enB g.1) (0 + Int.toNat (↑s.1 : Int) * 1)) (gCells (cellZ (gC enB g.1) (0 + Int.toNat (↑s.1 : Int) * 1))))) true (Ob.cells true)) (5 : Int))))) true (Ob.cells
  true))), Value.int IntKind.i64 (0 : Int)]) = Value.agg (Array.mk [Value.int IntKind.i64 (pB (Row.mk (bCells s.2.1.1) false (Ob.cells true)) s.2.1.2 g.2 (bz s.2.2) (scB
  s.2.1.3) s.2.3 (Row.mk (List.take ((Int.toNat (Int.ofNat (cellN (gC enB g.1) (0 + Int.toNat (↑s.1 : Int) * 1))) - 0) * 1) (List.drop 0 (bCells (padL (Row.mk (List.take
  (cellN (gC enB g.1) (0 + Int.toNat (↑s.1 : Int) * 1) * 1) (List.drop (cellO (gC enB g.1) (0 + Int.toNat (↑s.1 : Int) * 1)) (gCells (cellZ (gC enB g.1) (0 + Int.toNat (↑s.1
  : Int) * 1))))) true (Ob.cells true)) (5 : Int))))) true (Ob.cells true))), Value.int IntKind.i64 (pC (Row.mk (bCells s.2.1.1) false (Ob.cells true)) s.2.1.2 g.2 (bz
  s.2.2) (scB s.2.1.3) s.2.3 (Row.mk (List.take ((Int.toNat (Int.ofNat (cellN (gC enB g.1) (0 + Int.toNat (↑s.1 : Int) * 1))) - 0) * 1) (List.drop 0 (bCells (padL (Row.mk
  (List.take (cellN (gC enB g.1) (0 + Int.toNat (↑s.1 : Int) * 1) * 1) (List.drop (cellO (gC enB g.1) (0 + Int.toNat (↑s.1 : Int) * 1)) (gCells (cellZ (gC enB g.1) (0 +
  Int.toNat (↑s.1 : Int) * 1))))) true (Ob.cells true)) (5 : Int))))) true (Ob.cells true))), Value.int IntKind.i64 (0 : Int)])) /\ ((Value.agg (Array.mk [Value.int
  IntKind.i64 (uB (Row.mk (bCells s.3.1.1) false (Ob.cells true)) s.3.1.2 g.2 (bz s.3.2) (scB s.3.1.3) s.3.3 (Row.mk (List.take (cellN (gC enB g.1) (0 + Int.toNat (↑s.1 :
  Int) * 1) * 1) (List.drop (cellO (gC enB g.1) (0 + Int.toNat (↑s.1 : Int) * 1)) (gCells (cellZ (gC enB g.1) (0 + Int.toNat (↑s.1 : Int) * 1))))) true (Ob.cells true))),
  Value.int IntKind.i64 (uC (Row.mk (bCells s.3.1.1) false (Ob.cells true)) s.3.1.2 g.2 (bz s.3.2) (scB s.3.1.3) s.3.3 (Row.mk (List.take (cellN (gC enB g.1) (0 + Int.toNat
  (↑s.1 : Int) * 1) * 1) (List.drop (cellO (gC enB g.1) (0 + Int.toNat (↑s.1 : Int) * 1)) (gCells (cellZ (gC enB g.1) (0 + Int.toNat (↑s.1 : Int) * 1))))) true (Ob.cells
  true))), Value.int IntKind.i64 (0 : Int)]) = Value.agg (Array.mk [Value.int IntKind.i64 (uB (Row.mk (bCells s.3.1.1) false (Ob.cells true)) s.3.1.2 g.2 (bz s.3.2) (scB
  s.3.1.3) s.3.3 (Row.mk (List.take (cellN (gC enB g.1) (0 + Int.toNat (↑s.1 : Int) * 1) * 1) (List.drop (cellO (gC enB g.1) (0 + Int.toNat (↑s.1 : Int) * 1)) (gCells (cellZ
  (gC enB g.1) (0 + Int.toNat (↑s.1 : Int) * 1))))) true (Ob.cells true))), Value.int IntKind.i64 (uC (Row.mk (bCells s.3.1.1) false (Ob.cells true)) s.3.1.2 g.2 (bz s.3.2)
  (scB s.3.1.3) s.3.3 (Row.mk (List.take (cellN (gC enB g.1) (0 + Int.toNat (↑s.1 : Int) * 1) * 1) (List.drop (cellO (gC enB g.1) (0 + Int.toNat (↑s.1 : Int) * 1)) (gCells
  (cellZ (gC enB g.1) (0 + Int.toNat (↑s.1 : Int) * 1))))) true (Ob.cells true))), Value.int IntKind.i64 (0 : Int)])) /\ ((Value.slice (some (Addr.mk 13 (0 + uK (Row.mk
  (bCells s.3.1.1) false (Ob.cells true)) s.3.1.2 g.2 (bz s.3.2) (scB s.3.1.3) s.3.3 (Row.mk (List.take (cellN (gC enB g.1) (0 + Int.toNat (↑s.1 : Int) * 1) * 1) (List.drop
  (cellO (gC enB g.1) (0 + Int.toNat (↑s.1 : Int) * 1)) (gCells (cellZ (gC enB g.1) (0 + Int.toNat (↑s.1 : Int) * 1))))) true (Ob.cells true))) none)) (uN (Row.mk (bCells
  s.3.1.1) false (Ob.cells true)) s.3.1.2 g.2 (bz s.3.2) (scB s.3.1.3) s.3.3 (Row.mk (List.take (cellN (gC enB g.1) (0 + Int.toNat (↑s.1 : Int) * 1) * 1) (List.drop (cellO
  (gC enB g.1) (0 + Int.toNat (↑s.1 : Int) * 1)) (gCells (cellZ (gC enB g.1) (0 + Int.toNat (↑s.1 : Int) * 1))))) true (Ob.cells true))) 1 = Value.slice (some (Addr.mk 13 (0
  + uK (Row.mk (bCells s.3.1.1) false (Ob.cells true)) s.3.1.2 g.2 (bz s.3.2) (scB s.3.1.3) s.3.3 (Row.mk (List.take (cellN (gC enB g.1) (0 + Int.toNat (↑s.1 : Int) * 1) *
  1) (List.drop (cellO (gC enB g.1) (0 + Int.toNat (↑s.1 : Int) * 1)) (gCells (cellZ (gC enB g.1) (0 + Int.toNat (↑s.1 : Int) * 1))))) true (Ob.cells true))) none)) (uN
  (Row.mk (bCells s.3.1.1) false (Ob.cells true)) s.3.1.2 g.2 (bz s.3.2) (scB s.3.1.3) s.3.3 (Row.mk (List.take (cellN (gC enB g.1) (0 + Int.toNat (↑s.1 : Int) * 1) * 1)
  (List.drop (cellO (gC enB g.1) (0 + Int.toNat (↑s.1 : Int) * 1)) (gCells (cellZ (gC enB g.1) (0 + Int.toNat (↑s.1 : Int) * 1))))) true (Ob.cells true))) 1) /\
  ((Value.slice (some (Addr.mk 13 (0 + uK (Row.mk (bCells s.3.1.1) false (Ob.cells true)) s.3.1.2 g.2 (bz s.3.2) (scB s.3.1.3) s.3.3 (Row.mk (List.take (cellN (gC enB g.1)
  (0 + Int.toNat (↑s.1 : Int) * 1) * 1) (List.drop (cellO (gC enB g.1) (0 + Int.toNat (↑s.1 : Int) * 1)) (gCells (cellZ (gC enB g.1) (0 + Int.toNat (↑s.1 : Int) * 1)))))
  true (Ob.cells true))) none)) (uN (Row.mk (bCells s.3.1.1) false (Ob.cells true)) s.3.1.2 g.2 (bz s.3.2) (scB s.3.1.3) s.3.3 (Row.mk (List.take (cellN (gC enB g.1) (0 +
  Int.toNat (↑s.1 : Int) * 1) * 1) (List.drop (cellO (gC enB g.1) (0 + Int.toNat (↑s.1 : Int) * 1)) (gCells (cellZ (gC enB g.1) (0 + Int.toNat (↑s.1 : Int) * 1))))) true
  (Ob.cells true))) 1 = Value.slice (some (Addr.mk 13 (0 + uK (Row.mk (bCells s.3.1.1) false (Ob.cells true)) s.3.1.2 g.2 (bz s.3.2) (scB s.3.1.3) s.3.3 (Row.mk (List.take
  (cellN (gC enB g.1) (0 + Int.toNat (↑s.1 : Int) * 1) * 1) (List.drop (cellO (gC enB g.1) (0 + Int.toNat (↑s.1 : Int) * 1)) (gCells (cellZ (gC enB g.1) (0 + Int.toNat (↑s.1
  : Int) * 1))))) true (Ob.cells true))) none)) (uN (Row.mk (bCells s.3.1.1) false (Ob.cells true)) s.3.1.2 g.2 (bz s.3.2) (scB s.3.1.3) s.3.3 (Row.mk (List.take (cellN (gC
  enB g.1) (0 + Int.toNat (↑s.1 : Int) * 1) * 1) (List.drop (cellO (gC enB g.1) (0 + Int.toNat (↑s.1 : Int) * 1)) (gCells (cellZ (gC enB g.1) (0 + Int.toNat (↑s.1 : Int) *
  1))))) true (Ob.cells true))) 1) /\ (∃ y : Unit, ((False) /\ ((false = false) /\ ((Eq (α := List Value) (gC enB g.1) (gC enB g.1)) /\ ((Plain (gC enB g.1)) /\
  True))))))))) (((((0 + (cellN (gC enB g.1) (0 + Int.toNat (↑s.1 : Int) * 1) + 80) * 1 <= List.length (bCells (padL (Row.mk (List.take (cellN (gC enB g.1) (0 + Int.toNat
  (↑s.1 : Int) * 1) * 1) (List.drop (cellO (gC enB g.1) (0 + Int.toNat (↑s.1 : Int) * 1)) (gCells (cellZ (gC enB g.1) (0 + Int.toNat (↑s.1 : Int) * 1))))) true (Ob.cells
  true)) (5 : Int))) /\ Plain (List.take ((cellN (gC enB g.1) (0 + Int.toNat (↑s.1 : Int) * 1) + 80) * 1) (List.drop 0 (bCells (padL (Row.mk (List.take (cellN (gC enB g.1)
  (0 + Int.toNat (↑s.1 : Int) * 1) * 1) (List.drop (cellO (gC enB g.1) (0 + Int.toNat (↑s.1 : Int) * 1)) (gCells (cellZ (gC enB g.1) (0 + Int.toNat (↑s.1 : Int) * 1)))))
  true (Ob.cells true)) (5 : Int)))))) /\ (cellO (gC enB g.1) (0 + Int.toNat (↑s.1 : Int) * 1) + cellN (gC enB g.1) (0 + Int.toNat (↑s.1 : Int) * 1) * 1 <= List.length
  (gCells (cellZ (gC enB g.1) (0 + Int.toNat (↑s.1 : Int) * 1))) /\ (True /\ True))) /\ ((True /\ (True /\ True)) /\ (True /\ (IsB (Row.mk (List.take ((cellN (gC enB g.1) (0
  + Int.toNat (↑s.1 : Int) * 1) + 80) * 1) (List.drop 0 (bCells (padL (Row.mk (List.take (cellN (gC enB g.1) (0 + Int.toNat (↑s.1 : Int) * 1) * 1) (List.drop (cellO (gC enB
  g.1) (0 + Int.toNat (↑s.1 : Int) * 1)) (gCells (cellZ (gC enB g.1) (0 + Int.toNat (↑s.1 : Int) * 1))))) true (Ob.cells true)) (5 : Int))))) true (Ob.cells true)) (cellN
  (gC enB g.1) (0 + Int.toNat (↑s.1 : Int) * 1) + 80) /\ (IsB (Row.mk (List.take (cellN (gC enB g.1) (0 + Int.toNat (↑s.1 : Int) * 1) * 1) (List.drop (cellO (gC enB g.1) (0
  + Int.toNat (↑s.1 : Int) * 1)) (gCells (cellZ (gC enB g.1) (0 + Int.toNat (↑s.1 : Int) * 1))))) true (Ob.cells true)) (cellN (gC enB g.1) (0 + Int.toNat (↑s.1 : Int) * 1))
  /\ (IsU8 (5 : Int) /\ (cellN (gC enB g.1) (0 + Int.toNat (↑s.1 : Int) * 1) + 80 <= 9223372036854775807 /\ cellN (gC enB g.1) (0 + Int.toNat (↑s.1 : Int) * 1) <=
  9223372036854775000)))))))) /\ ((Value.agg (Array.mk [Value.int IntKind.i64 (pB (Row.mk (bCells s.2.1.1) false (Ob.cells true)) s.2.1.2 g.2 (bz s.2.2) (scB s.2.1.3) s.2.3
  (Row.mk (List.take ((Int.toNat (Int.ofNat (cellN (gC enB g.1) (0 + Int.toNat (↑s.1 : Int) * 1))) - 0) * 1) (List.drop 0 (bCells (padL (Row.mk (List.take (cellN (gC enB
  g.1) (0 + Int.toNat (↑s.1 : Int) * 1) * 1) (List.drop (cellO (gC enB g.1) (0 + Int.toNat (↑s.1 : Int) * 1)) (gCells (cellZ (gC enB g.1) (0 + Int.toNat (↑s.1 : Int) *
  1))))) true (Ob.cells true)) (5 : Int))))) true (Ob.cells true))), Value.int IntKind.i64 (pC (Row.mk (bCells s.2.1.1) false (Ob.cells true)) s.2.1.2 g.2 (bz s.2.2) (scB
  s.2.1.3) s.2.3 (Row.mk (List.take ((Int.toNat (Int.ofNat (cellN (gC enB g.1) (0 + Int.toNat (↑s.1 : Int) * 1))) - 0) * 1) (List.drop 0 (bCells (padL (Row.mk (List.take
  (cellN (gC enB g.1) (0 + Int.toNat (↑s.1 : Int) * 1) * 1) (List.drop (cellO (gC enB g.1) (0 + Int.toNat (↑s.1 : Int) * 1)) (gCells (cellZ (gC enB g.1) (0 + Int.toNat (↑s.1
  : Int) * 1))))) true (Ob.cells true)) (5 : Int))))) true (Ob.cells true))), Value.int IntKind.i64 (0 : Int)]) = Value.agg (Array.mk [Value.int IntKind.i64 (pB (Row.mk
  (bCells s.2.1.1) false (Ob.cells true)) s.2.1.2 g.2 (bz s.2.2) (scB s.2.1.3) s.2.3 (Row.mk (List.take ((Int.toNat (Int.ofNat (cellN (gC enB g.1) (0 + Int.toNat (↑s.1 :
  Int) * 1))) - 0) * 1) (List.drop 0 (bCells (padL (Row.mk (List.take (cellN (gC enB g.1) (0 + Int.toNat (↑s.1 : Int) * 1) * 1) (List.drop (cellO (gC enB g.1) (0 + Int.toNat
  (↑s.1 : Int) * 1)) (gCells (cellZ (gC enB g.1) (0 + Int.toNat (↑s.1 : Int) * 1))))) true (Ob.cells true)) (5 : Int))))) true (Ob.cells true))), Value.int IntKind.i64 (pC
  (Row.mk (bCells s.2.1.1) false (Ob.cells true)) s.2.1.2 g.2 (bz s.2.2) (scB s.2.1.3) s.2.3 (Row.mk (List.take ((Int.toNat (Int.ofNat (cellN (gC enB g.1) (0 + Int.toNat
  (↑s.1 : Int) * 1))) - 0) * 1) (List.drop 0 (bCells (padL (Row.mk (List.take (cellN (gC enB g.1) (0 + Int.toNat (↑s.1 : Int) * 1) * 1) (List.drop (cellO (gC enB g.1) (0 +
  Int.toNat (↑s.1 : Int) * 1)) (gCells (cellZ (gC enB g.1) (0 + Int.toNat (↑s.1 : Int) * 1))))) true (Ob.cells true)) (5 : Int))))) true (Ob.cells true))), Value.int
  IntKind.i64 (0 : Int)])) /\ ((Value.agg (Array.mk [Value.int IntKind.i64 (uB (Row.mk (bCells s.3.1.1) false (Ob.cells true)) s.3.1.2 g.2 (bz s.3.2) (scB s.3.1.3) s.3.3
  (Row.mk (List.take (cellN (gC enB g.1) (0 + Int.toNat (↑s.1 : Int) * 1) * 1) (List.drop (cellO (gC enB g.1) (0 + Int.toNat (↑s.1 : Int) * 1)) (gCells (cellZ (gC enB g.1)
  (0 + Int.toNat (↑s.1 : Int) * 1))))) true (Ob.cells true))), Value.int IntKind.i64 (uC (Row.mk (bCells s.3.1.1) false (Ob.cells true)) s.3.1.2 g.2 (bz s.3.2) (scB s.3.1.3)
  s.3.3 (Row.mk (List.take (cellN (gC enB g.1) (0 + Int.toNat (↑s.1 : Int) * 1) * 1) (List.drop (cellO (gC enB g.1) (0 + Int.toNat (↑s.1 : Int) * 1)) (gCells (cellZ (gC enB
  g.1) (0 + Int.toNat (↑s.1 : Int) * 1))))) true (Ob.cells true))), Value.int IntKind.i64 (0 : Int)]) = Value.agg (Array.mk [Value.int IntKind.i64 (uB (Row.mk (bCells
  s.3.1.1) false (Ob.cells true)) s.3.1.2 g.2 (bz s.3.2) (scB s.3.1.3) s.3.3 (Row.mk (List.take (cellN (gC enB g.1) (0 + Int.toNat (↑s.1 : Int) * 1) * 1) (List.drop (cellO
  (gC enB g.1) (0 + Int.toNat (↑s.1 : Int) * 1)) (gCells (cellZ (gC enB g.1) (0 + Int.toNat (↑s.1 : Int) * 1))))) true (Ob.cells true))), Value.int IntKind.i64 (uC (Row.mk
  (bCells s.3.1.1) false (Ob.cells true)) s.3.1.2 g.2 (bz s.3.2) (scB s.3.1.3) s.3.3 (Row.mk (List.take (cellN (gC enB g.1) (0 + Int.toNat (↑s.1 : Int) * 1) * 1) (List.drop
  (cellO (gC enB g.1) (0 + Int.toNat (↑s.1 : Int) * 1)) (gCells (cellZ (gC enB g.1) (0 + Int.toNat (↑s.1 : Int) * 1))))) true (Ob.cells true))), Value.int IntKind.i64 (0 :
  Int)])) /\ ((Value.slice (some (Addr.mk 13 (0 + uK (Row.mk (bCells s.3.1.1) false (Ob.cells true)) s.3.1.2 g.2 (bz s.3.2) (scB s.3.1.3) s.3.3 (Row.mk (List.take (cellN (gC
  enB g.1) (0 + Int.toNat (↑s.1 : Int) * 1) * 1) (List.drop (cellO (gC enB g.1) (0 + Int.toNat (↑s.1 : Int) * 1)) (gCells (cellZ (gC enB g.1) (0 + Int.toNat (↑s.1 : Int) *
  1))))) true (Ob.cells true))) none)) (uN (Row.mk (bCells s.3.1.1) false (Ob.cells true)) s.3.1.2 g.2 (bz s.3.2) (scB s.3.1.3) s.3.3 (Row.mk (List.take (cellN (gC enB g.1)
  (0 + Int.toNat (↑s.1 : Int) * 1) * 1) (List.drop (cellO (gC enB g.1) (0 + Int.toNat (↑s.1 : Int) * 1)) (gCells (cellZ (gC enB g.1) (0 + Int.toNat (↑s.1 : Int) * 1)))))
  true (Ob.cells true))) 1 = Value.slice (some (Addr.mk 13 (0 + uK (Row.mk (bCells s.3.1.1) false (Ob.cells true)) s.3.1.2 g.2 (bz s.3.2) (scB s.3.1.3) s.3.3 (Row.mk
  (List.take (cellN (gC enB g.1) (0 + Int.toNat (↑s.1 : Int) * 1) * 1) (List.drop (cellO (gC enB g.1) (0 + Int.toNat (↑s.1 : Int) * 1)) (gCells (cellZ (gC enB g.1) (0 +
  Int.toNat (↑s.1 : Int) * 1))))) true (Ob.cells true))) none)) (uN (Row.mk (bCells s.3.1.1) false (Ob.cells true)) s.3.1.2 g.2 (bz s.3.2) (scB s.3.1.3) s.3.3 (Row.mk
  (List.take (cellN (gC enB g.1) (0 + Int.toNat (↑s.1 : Int) * 1) * 1) (List.drop (cellO (gC enB g.1) (0 + Int.toNat (↑s.1 : Int) * 1)) (gCells (cellZ (gC enB g.1) (0 +
  Int.toNat (↑s.1 : Int) * 1))))) true (Ob.cells true))) 1) /\ ((Value.slice (some (Addr.mk 13 (0 + uK (Row.mk (bCells s.3.1.1) false (Ob.cells true)) s.3.1.2 g.2 (bz s.3.2)
  (scB s.3.1.3) s.3.3 (Row.mk (List.take (cellN (gC enB g.1) (0 + Int.toNat (↑s.1 : Int) * 1) * 1) (List.drop (cellO (gC enB g.1) (0 + Int.toNat (↑s.1 : Int) * 1)) (gCells
  (cellZ (gC enB g.1) (0 + Int.toNat (↑s.1 : Int) * 1))))) true (Ob.cells true))) none)) (uN (Row.mk (bCells s.3.1.1) false (Ob.cells true)) s.3.1.2 g.2 (bz s.3.2) (scB
  s.3.1.3) s.3.3 (Row.mk (List.take (cellN (gC enB g.1) (0 + Int.toNat (↑s.1 : Int) * 1) * 1) (List.drop (cellO (gC enB g.1) (0 + Int.toNat (↑s.1 : Int) * 1)) (gCells (cellZ
  (gC enB g.1) (0 + Int.toNat (↑s.1 : Int) * 1))))) true (Ob.cells true))) 1 = Value.slice (some (Addr.mk 13 (0 + uK (Row.mk (bCells s.3.1.1) false (Ob.cells true)) s.3.1.2
  g.2 (bz s.3.2) (scB s.3.1.3) s.3.3 (Row.mk (List.take (cellN (gC enB g.1) (0 + Int.toNat (↑s.1 : Int) * 1) * 1) (List.drop (cellO (gC enB g.1) (0 + Int.toNat (↑s.1 : Int)
  * 1)) (gCells (cellZ (gC enB g.1) (0 + Int.toNat (↑s.1 : Int) * 1))))) true (Ob.cells true))) none)) (uN (Row.mk (bCells s.3.1.1) false (Ob.cells true)) s.3.1.2 g.2 (bz
  s.3.2) (scB s.3.1.3) s.3.3 (Row.mk (List.take (cellN (gC enB g.1) (0 + Int.toNat (↑s.1 : Int) * 1) * 1) (List.drop (cellO (gC enB g.1) (0 + Int.toNat (↑s.1 : Int) * 1))
  (gCells (cellZ (gC enB g.1) (0 + Int.toNat (↑s.1 : Int) * 1))))) true (Ob.cells true))) 1) /\ (br (!inI (Row.mk (List.take ((cellN (gC enB g.1) (0 + Int.toNat (↑s.1 : Int)
  * 1) + 80) * 1) (List.drop 0 (bCells (padL (Row.mk (List.take (cellN (gC enB g.1) (0 + Int.toNat (↑s.1 : Int) * 1) * 1) (List.drop (cellO (gC enB g.1) (0 + Int.toNat (↑s.1
  : Int) * 1)) (gCells (cellZ (gC enB g.1) (0 + Int.toNat (↑s.1 : Int) * 1))))) true (Ob.cells true)) (5 : Int))))) true (Ob.cells true)) (Row.mk (List.take (cellN (gC enB
  g.1) (0 + Int.toNat (↑s.1 : Int) * 1) * 1) (List.drop (cellO (gC enB g.1) (0 + Int.toNat (↑s.1 : Int) * 1)) (gCells (cellZ (gC enB g.1) (0 + Int.toNat (↑s.1 : Int) *
  1))))) true (Ob.cells true)) (5 : Int)) (∃ y : Unit, ((False) /\ ((false = false) /\ ((Eq (α := List Value) (gC enB g.1) (gC enB g.1)) /\ ((Plain (gC enB g.1)) /\
  True))))) (∃ j : Sr, ((Inv j) /\ ((q j < q s) /\ ((0 = 0) /\ ((List.length g.1 = List.length g.1) /\ ((0 = 0) /\ ((0 = 0) /\ (((↑j.1 : Int) = IntKind.wrap IntKind.i64
  ((↑s.1 : Int) + (1 : Int))) /\ ((Eq (α := List Value) (gC enB g.1) (gC enB g.1)) /\ ((Plain (gC enB g.1)) /\ ((j.2.1.2 = 0 + pK (Row.mk (bCells s.2.1.1) false (Ob.cells
  true)) s.2.1.2 g.2 (bz s.2.2) (scB s.2.1.3) s.2.3 (Row.mk (List.take ((Int.toNat (Int.ofNat (cellN (gC enB g.1) (0 + Int.toNat (↑s.1 : Int) * 1))) - 0) * 1) (List.drop 0
  (bCells (padL (Row.mk (List.take (cellN (gC enB g.1) (0 + Int.toNat (↑s.1 : Int) * 1) * 1) (List.drop (cellO (gC enB g.1) (0 + Int.toNat (↑s.1 : Int) * 1)) (gCells (cellZ
  (gC enB g.1) (0 + Int.toNat (↑s.1 : Int) * 1))))) true (Ob.cells true)) (5 : Int))))) true (Ob.cells true))) /\ ((List.length j.2.1.1 - j.2.1.2 = pN (Row.mk (bCells
  s.2.1.1) false (Ob.cells true)) s.2.1.2 g.2 (bz s.2.2) (scB s.2.1.3) s.2.3 (Row.mk (List.take ((Int.toNat (Int.ofNat (cellN (gC enB g.1) (0 + Int.toNat (↑s.1 : Int) * 1)))
  - 0) * 1) (List.drop 0 (bCells (padL (Row.mk (List.take (cellN (gC enB g.1) (0 + Int.toNat (↑s.1 : Int) * 1) * 1) (List.drop (cellO (gC enB g.1) (0 + Int.toNat (↑s.1 :
  Int) * 1)) (gCells (cellZ (gC enB g.1) (0 + Int.toNat (↑s.1 : Int) * 1))))) true (Ob.cells true)) (5 : Int))))) true (Ob.cells true))) /\ ((g.2 = g.2) /\ ((bz j.2.2 = pT
  (Row.mk (bCells s.2.1.1) false (Ob.cells true)) s.2.1.2 g.2 (bz s.2.2) (scB s.2.1.3) s.2.3 (Row.mk (List.take ((Int.toNat (Int.ofNat (cellN (gC enB g.1) (0 + Int.toNat
  (↑s.1 : Int) * 1))) - 0) * 1) (List.drop 0 (bCells (padL (Row.mk (List.take (cellN (gC enB g.1) (0 + Int.toNat (↑s.1 : Int) * 1) * 1) (List.drop (cellO (gC enB g.1) (0 +
  Int.toNat (↑s.1 : Int) * 1)) (gCells (cellZ (gC enB g.1) (0 + Int.toNat (↑s.1 : Int) * 1))))) true (Ob.cells true)) (5 : Int))))) true (Ob.cells true))) /\ ((scB j.2.1.3 =
  pB (Row.mk (bCells s.2.1.1) false (Ob.cells true)) s.2.1.2 g.2 (bz s.2.2) (scB s.2.1.3) s.2.3 (Row.mk (List.take ((Int.toNat (Int.ofNat (cellN (gC enB g.1) (0 + Int.toNat
  (↑s.1 : Int) * 1))) - 0) * 1) (List.drop 0 (bCells (padL (Row.mk (List.take (cellN (gC enB g.1) (0 + Int.toNat (↑s.1 : Int) * 1) * 1) (List.drop (cellO (gC enB g.1) (0 +
  Int.toNat (↑s.1 : Int) * 1)) (gCells (cellZ (gC enB g.1) (0 + Int.toNat (↑s.1 : Int) * 1))))) true (Ob.cells true)) (5 : Int))))) true (Ob.cells true))) /\ ((j.2.3 = pC
  (Row.mk (bCells s.2.1.1) false (Ob.cells true)) s.2.1.2 g.2 (bz s.2.2) (scB s.2.1.3) s.2.3 (Row.mk (List.take ((Int.toNat (Int.ofNat (cellN (gC enB g.1) (0 + Int.toNat
  (↑s.1 : Int) * 1))) - 0) * 1) (List.drop 0 (bCells (padL (Row.mk (List.take (cellN (gC enB g.1) (0 + Int.toNat (↑s.1 : Int) * 1) * 1) (List.drop (cellO (gC enB g.1) (0 +
  Int.toNat (↑s.1 : Int) * 1)) (gCells (cellZ (gC enB g.1) (0 + Int.toNat (↑s.1 : Int) * 1))))) true (Ob.cells true)) (5 : Int))))) true (Ob.cells true))) /\ (((0 : Int) =
  (0 : Int)) /\ ((Eq (α := List Value) (bCells j.2.1.1) (bCells (pX (Row.mk (bCells s.2.1.1) false (Ob.cells true)) s.2.1.2 g.2 (bz s.2.2) (scB s.2.1.3) s.2.3 (Row.mk
  (List.take ((Int.toNat (Int.ofNat (cellN (gC enB g.1) (0 + Int.toNat (↑s.1 : Int) * 1))) - 0) * 1) (List.drop 0 (bCells (padL (Row.mk (List.take (cellN (gC enB g.1) (0 +
  Int.toNat (↑s.1 : Int) * 1) * 1) (List.drop (cellO (gC enB g.1) (0 + Int.toNat (↑s.1 : Int) * 1)) (gCells (cellZ (gC enB g.1) (0 + Int.toNat (↑s.1 : Int) * 1))))) true
  (Ob.cells true)) (5 : Int))))) true (Ob.cells true))))) /\ ((Plain (bCells j.2.1.1)) /\ ((j.3.1.2 = 0 + uK (Row.mk (bCells s.3.1.1) false (Ob.cells true)) s.3.1.2 g.2 (bz
  s.3.2) (scB s.3.1.3) s.3.3 (Row.mk (List.take (cellN (gC enB g.1) (0 + Int.toNat (↑s.1 : Int) * 1) * 1) (List.drop (cellO (gC enB g.1) (0 + Int.toNat (↑s.1 : Int) * 1))
  (gCells (cellZ (gC enB g.1) (0 + Int.toNat (↑s.1 : Int) * 1))))) true (Ob.cells true))) /\ ((List.length j.3.1.1 - j.3.1.2 = uN (Row.mk (bCells s.3.1.1) false (Ob.cells
  true)) s.3.1.2 g.2 (bz s.3.2) (scB s.3.1.3) s.3.3 (Row.mk (List.take (cellN (gC enB g.1) (0 + Int.toNat (↑s.1 : Int) * 1) * 1) (List.drop (cellO (gC enB g.1) (0 +
  Int.toNat (↑s.1 : Int) * 1)) (gCells (cellZ (gC enB g.1) (0 + Int.toNat (↑s.1 : Int) * 1))))) true (Ob.cells true))) /\ ((bz j.3.2 = uT (Row.mk (bCells s.3.1.1) false
  (Ob.cells true)) s.3.1.2 g.2 (bz s.3.2) (scB s.3.1.3) s.3.3 (Row.mk (List.take (cellN (gC enB g.1) (0 + Int.toNat (↑s.1 : Int) * 1) * 1) (List.drop (cellO (gC enB g.1) (0
  + Int.toNat (↑s.1 : Int) * 1)) (gCells (cellZ (gC enB g.1) (0 + Int.toNat (↑s.1 : Int) * 1))))) true (Ob.cells true))) /\ ((g.2 = g.2) /\ ((scB j.3.1.3 = uB (Row.mk
  (bCells s.3.1.1) false (Ob.cells true)) s.3.1.2 g.2 (bz s.3.2) (scB s.3.1.3) s.3.3 (Row.mk (List.take (cellN (gC enB g.1) (0 + Int.toNat (↑s.1 : Int) * 1) * 1) (List.drop
  (cellO (gC enB g.1) (0 + Int.toNat (↑s.1 : Int) * 1)) (gCells (cellZ (gC enB g.1) (0 + Int.toNat (↑s.1 : Int) * 1))))) true (Ob.cells true))) /\ ((j.3.3 = uC (Row.mk
  (bCells s.3.1.1) false (Ob.cells true)) s.3.1.2 g.2 (bz s.3.2) (scB s.3.1.3) s.3.3 (Row.mk (List.take (cellN (gC enB g.1) (0 + Int.toNat (↑s.1 : Int) * 1) * 1) (List.drop
  (cellO (gC enB g.1) (0 + Int.toNat (↑s.1 : Int) * 1)) (gCells (cellZ (gC enB g.1) (0 + Int.toNat (↑s.1 : Int) * 1))))) true (Ob.cells true))) /\ (((0 : Int) = (0 : Int))
  /\ ((Eq (α := List Value) (bCells j.3.1.1) (bCells (uX (Row.mk (bCells s.3.1.1) false (Ob.cells true)) s.3.1.2 g.2 (bz s.3.2) (scB s.3.1.3) s.3.3 (Row.mk (List.take (cellN
  (gC enB g.1) (0 + Int.toNat (↑s.1 : Int) * 1) * 1) (List.drop (cellO (gC enB g.1) (0 + Int.toNat (↑s.1 : Int) * 1)) (gCells (cellZ (gC enB g.1) (0 + Int.toNat (↑s.1 : Int)
  * 1))))) true (Ob.cells true))))) /\ ((Plain (bCells j.3.1.1)) /\ True)))))))))))))))))))))))))))))))))))))))) False)))) False) (∃ y : Unit, ((True) /\ ((Eq (α := List
  Value) (gC enB g.1) (gC enB g.1)) /\ ((Plain (gC enB g.1)) /\ True))))) (∃ y : Unit, ((True) /\ ((Eq (α := List Value) (gC enB g.1) (gC enB g.1)) /\ ((Plain (gC enB g.1))
  /\ True))))) := by kernel_rfl
theorem R_vc0 (m : Int) (l : List (List UInt8)) : mcall EtR mF 60 5 [.int .i64 m, .bool false, .bool false, slc1 0 l.length] ⟨mkR (nums 0 [gRo enB l]), 1⟩ (retIs 1 (.bool true) [gRo enB l]) =
  (br (decide (m < (16384 : Int))) (br (decide (m < (16384 : Int))) (((True /\ (True /\ (True /\ True)))) /\ ((true = true) /\ ((Eq (α := List Value) (gC enB l) (gC enB l))
  /\ ((Plain (gC enB l)) /\ True)))) (br (decide (m > (16777215 : Int))) (((True /\ (True /\ (True /\ True)))) /\ ((true = true) /\ ((Eq (α := List Value) (gC enB l) (gC enB
  l)) /\ ((Plain (gC enB l)) /\ True)))) ((true = false) /\ ((Eq (α := List Value) (gC enB l) (gC enB l)) /\ ((Plain (gC enB l)) /\ True))))) (br (decide (m > (16777215 :
  Int))) (br (decide (m < (16384 : Int))) (((True /\ (True /\ (True /\ True)))) /\ ((true = true) /\ ((Eq (α := List Value) (gC enB l) (gC enB l)) /\ ((Plain (gC enB l)) /\
  True)))) (br (decide (m > (16777215 : Int))) (((True /\ (True /\ (True /\ True)))) /\ ((true = true) /\ ((Eq (α := List Value) (gC enB l) (gC enB l)) /\ ((Plain (gC enB
  l)) /\ True)))) ((true = false) /\ ((Eq (α := List Value) (gC enB l) (gC enB l)) /\ ((Plain (gC enB l)) /\ True))))) (br (decide (m < (16384 : Int))) ((true = false) /\
  ((Eq (α := List Value) (gC enB l) (gC enB l)) /\ ((Plain (gC enB l)) /\ True))) (br (decide (m > (16777215 : Int))) ((true = false) /\ ((Eq (α := List Value) (gC enB l)
  (gC enB l)) /\ ((Plain (gC enB l)) /\ True))) (∃ g : Gr0, ((∀ (p : List UInt8), p ∈ Gr.l (Gr0.g g) → List.length p <= maxLen) /\ ((0 = 0) /\ ((List.length g.1.1 =
  List.length l) /\ ((0 = 0) /\ ((0 = 0) /\ (((↑0 : Int) = (0 : Int)) /\ ((Eq (α := List Value) (gC enB g.1.1) (gC enB l)) /\ ((Plain (gC enB g.1.1)) /\ ((0 = 0) /\ ((g.1.2
  = m) /\ ((bz g.2 = ByteArray.mk #[]) /\ ((scB false = (0 : Int)) /\ (((0 : Int) = (0 : Int)) /\ (((0 : Int) = (0 : Int)) /\ ((Eq (α := List Value) ([]) ([])) /\ ((0 = 0)
  /\ ((bz g.2 = ByteArray.mk #[]) /\ ((g.1.2 = m) /\ ((scB false = (0 : Int)) /\ (((0 : Int) = (0 : Int)) /\ (((0 : Int) = (0 : Int)) /\ ((Eq (α := List Value) ([]) ([])) /\
  (∀ (side : Bool), (br (side) (∀ (y : Unit), ((True) → (((True /\ (True /\ (True /\ True)))) /\ ((true = true) /\ ((Eq (α := List Value) (gC enB l) (gC enB g.1.1)) /\
  ((Plain (gC enB l)) /\ True)))))) (∀ (y : Unit), ((False) → ((true = false) /\ ((Eq (α := List Value) (gC enB l) (gC enB g.1.1)) /\ ((Plain (gC enB l)) /\
  True)))))))))))))))))))))))))))))))))) := by kernel_rfl
theorem R_vc1 (m : Int) (l : List (List UInt8)) : mcall EtR mF 60 5 [.int .i64 m, .bool true, .bool false, slc1 0 l.length] ⟨mkR (nums 0 [gRo enB l]), 1⟩ (retIs 1 (.bool true) [gRo enB l]) =
  (br (decide (m < (16384 : Int))) (br (decide (m < (16384 : Int))) (((True /\ (True /\ (True /\ True)))) /\ ((true = true) /\ ((Eq (α := List Value) (gC enB l) (gC enB l))
  /\ ((Plain (gC enB l)) /\ True)))) (br (decide (m > (16777215 : Int))) (((True /\ (True /\ (True /\ True)))) /\ ((true = true) /\ ((Eq (α := List Value) (gC enB l) (gC enB
  l)) /\ ((Plain (gC enB l)) /\ True)))) ((true = false) /\ ((Eq (α := List Value) (gC enB l) (gC enB l)) /\ ((Plain (gC enB l)) /\ True))))) (br (decide (m > (16777215 :
  Int))) (br (decide (m < (16384 : Int))) (((True /\ (True /\ (True /\ True)))) /\ ((true = true) /\ ((Eq (α := List Value) (gC enB l) (gC enB l)) /\ ((Plain (gC enB l)) /\
  True)))) (br (decide (m > (16777215 : Int))) (((True /\ (True /\ (True /\ True)))) /\ ((true = true) /\ ((Eq (α := List Value) (gC enB l) (gC enB l)) /\ ((Plain (gC enB
  l)) /\ True)))) ((true = false) /\ ((Eq (α := List Value) (gC enB l) (gC enB l)) /\ ((Plain (gC enB l)) /\ True))))) (br (decide (m < (16384 : Int))) ((true = false) /\
  ((Eq (α := List Value) (gC enB l) (gC enB l)) /\ ((Plain (gC enB l)) /\ True))) (br (decide (m > (16777215 : Int))) ((true = false) /\ ((Eq (α := List Value) (gC enB l)
  (gC enB l)) /\ ((Plain (gC enB l)) /\ True))) (∃ g : Gr0, ((∀ (p : List UInt8), p ∈ Gr.l (Gr0.g g) → List.length p <= maxLen) /\ ((0 = 0) /\ ((List.length g.1.1 =
  List.length l) /\ ((0 = 0) /\ ((0 = 0) /\ (((↑0 : Int) = (0 : Int)) /\ ((Eq (α := List Value) (gC enB g.1.1) (gC enB l)) /\ ((Plain (gC enB g.1.1)) /\ ((0 = 0) /\ ((g.1.2
  = m) /\ ((bz g.2 = ByteArray.mk #[80, 82, 73, 32, 42, 32, 72, 84, 84, 80, 47, 50, 46, 48, 13, 10, 13, 10, 83, 77, 13, 10, 13, 10]) /\ ((scB false = (0 : Int)) /\ (((0 :
  Int) = (0 : Int)) /\ (((0 : Int) = (0 : Int)) /\ ((Eq (α := List Value) ([]) ([])) /\ ((0 = 0) /\ ((bz g.2 = ByteArray.mk #[80, 82, 73, 32, 42, 32, 72, 84, 84, 80, 47, 50,
  46, 48, 13, 10, 13, 10, 83, 77, 13, 10, 13, 10]) /\ ((g.1.2 = m) /\ ((scB false = (0 : Int)) /\ (((0 : Int) = (0 : Int)) /\ (((0 : Int) = (0 : Int)) /\ ((Eq (α := List
  Value) ([]) ([])) /\ (∀ (side : Bool), (br (side) (∀ (y : Unit), ((True) → (((True /\ (True /\ (True /\ True)))) /\ ((true = true) /\ ((Eq (α := List Value) (gC enB l) (gC
  enB g.1.1)) /\ ((Plain (gC enB l)) /\ True)))))) (∀ (y : Unit), ((False) → ((true = false) /\ ((Eq (α := List Value) (gC enB l) (gC enB g.1.1)) /\ ((Plain (gC enB l)) /\
  True)))))))))))))))))))))))))))))))))) := by kernel_rfl
theorem R_round1 (g : Gr) (o : List (List UInt8)) (s : Sr) (Inv : Sr → Prop) (q : Sr → Nat) : mev EtR noM 60 5 (0 :: pF) false (codeOf Try.prog 5 (0 :: pF)) ⟨mkOv (slF1 g s), 121, []⟩ none ⟨mkR (rlF1 g o s), 6⟩ (roundK 1 6 121 Inv q (slF1 g) (rlF1 g o) (wsF1 o) s) =
  (br (decide ((↑s.1 : Int) < Int.ofNat (List.length g.1))) (br (decide ((↑s.1 : Int) < (20 : Int))) (br (decide ((0 : Int) <= (↑s.1 : Int) /\ (↑s.1 : Int) < (↑(List.length
  g.1) : Int))) ((Eq (α := Option Value) ((gC enB g.1)[0 + Int.toNat (↑s.1 : Int) * 1]?) (some (Value.slice (some (Addr.mk (cellZ (gC enB g.1) (0 + Int.toNat (↑s.1 : Int) *
  1)) (cellO (gC enB g.1) (0 + Int.toNat (↑s.1 : Int) * 1)) (some 0))) (cellN (gC enB g.1) (0 + Int.toNat (↑s.1 : Int) * 1)) 1))) /\ (br (decide (Int.ofNat (cellN (gC enB
  g.1) (0 + Int.toNat (↑s.1 : Int) * 1)) > (400 : Int))) (br (decide ((0 : Int) <= (↑0 : Int) /\ (↑0 : Int) <= (400 : Int) /\ (400 : Int) <= (↑(cellN (gC enB g.1) (0 +
  Int.toNat (↑s.1 : Int) * 1)) : Int))) ((((cellO (gC enB g.1) (0 + Int.toNat (↑s.1 : Int) * 1) + 0 + 400 <= List.length (gCells (cellZ (gC enB g.1) (0 + Int.toNat (↑s.1 :
  Int) * 1))) /\ (True /\ True)) /\ ((True /\ True) /\ ((Plain (bCells (padL (Row.mk (List.take 400 (List.drop (cellO (gC enB g.1) (0 + Int.toNat (↑s.1 : Int) * 1) + 0)
  (gCells (cellZ (gC enB g.1) (0 + Int.toNat (↑s.1 : Int) * 1))))) true (Ob.cells true)) (5 : Int))) /\ True) /\ (IsB (Row.mk (List.take 400 (List.drop (cellO (gC enB g.1)
  (0 + Int.toNat (↑s.1 : Int) * 1) + 0) (gCells (cellZ (gC enB g.1) (0 + Int.toNat (↑s.1 : Int) * 1))))) true (Ob.cells true)) 400 /\ (IsU8 (5 : Int) /\ Int.toNat (400 :
  Int) - Int.toNat (↑0 : Int) <= 16777136)))))) /\ ((((True /\ ((400 <= List.length (bCells (padL (Row.mk (List.take 400 (List.drop (cellO (gC enB g.1) (0 + Int.toNat (↑s.1
  : Int) * 1) + 0) (gCells (cellZ (gC enB g.1) (0 + Int.toNat (↑s.1 : Int) * 1))))) true (Ob.cells true)) (5 : Int))) /\ Plain (List.take 400 (List.drop 0 (bCells (padL
  (Row.mk (List.take 400 (List.drop (cellO (gC enB g.1) (0 + Int.toNat (↑s.1 : Int) * 1) + 0) (gCells (cellZ (gC enB g.1) (0 + Int.toNat (↑s.1 : Int) * 1))))) true (Ob.cells
  true)) (5 : Int)))))) /\ True)) /\ (((True /\ (True /\ (True /\ (True /\ (True /\ (True /\ True)))))) /\ (True /\ (Plain (bCells s.2.1.1) /\ True))) /\ ((Plain (bCells (pX
  (Row.mk (bCells s.2.1.1) false (Ob.cells true)) s.2.1.2 g.2 (bz s.2.2) (scB s.2.1.3) s.2.3 (Row.mk (List.take 400 (List.drop 0 (bCells (padL (Row.mk (List.take 400
  (List.drop (cellO (gC enB g.1) (0 + Int.toNat (↑s.1 : Int) * 1) + 0) (gCells (cellZ (gC enB g.1) (0 + Int.toNat (↑s.1 : Int) * 1))))) true (Ob.cells true)) (5 : Int)))))
  true (Ob.cells true)))) /\ (Plain (gC enG (pL (Row.mk (bCells s.2.1.1) false (Ob.cells true)) s.2.1.2 g.2 (bz s.2.2) (scB s.2.1.3) s.2.3 (Row.mk (List.take 400 (List.drop
  0 (bCells (padL (Row.mk (List.take 400 (List.drop (cellO (gC enB g.1) (0 + Int.toNat (↑s.1 : Int) * 1) + 0) (gCells (cellZ (gC enB g.1) (0 + Int.toNat (↑s.1 : Int) *
  1))))) true (Ob.cells true)) (5 : Int))))) true (Ob.cells true)))) /\ True)) /\ IsQ (Row.mk (bCells s.2.1.1) false (Ob.cells true)) s.2.1.2 (List.length s.2.1.1 - s.2.1.2)
  (bz s.2.2) (scB s.2.1.3) s.2.3 (Row.mk (List.take 400 (List.drop 0 (bCells (padL (Row.mk (List.take 400 (List.drop (cellO (gC enB g.1) (0 + Int.toNat (↑s.1 : Int) * 1) +
  0) (gCells (cellZ (gC enB g.1) (0 + Int.toNat (↑s.1 : Int) * 1))))) true (Ob.cells true)) (5 : Int))))) true (Ob.cells true)) 400)))) /\ ((((True /\ (cellO (gC enB g.1) (0
  + Int.toNat (↑s.1 : Int) * 1) + 0 + 400 <= List.length (gCells (cellZ (gC enB g.1) (0 + Int.toNat (↑s.1 : Int) * 1))) /\ True)) /\ (((True /\ (True /\ (True /\ (True /\
  (True /\ (True /\ True)))))) /\ (True /\ (Plain (bCells s.3.1.1) /\ True))) /\ ((Plain (bCells (uX (Row.mk (bCells s.3.1.1) false (Ob.cells true)) s.3.1.2 g.2 (bz s.3.2)
  (scB s.3.1.3) s.3.3 (Row.mk (List.take 400 (List.drop (cellO (gC enB g.1) (0 + Int.toNat (↑s.1 : Int) * 1) + 0) (gCells (cellZ (gC enB g.1) (0 + Int.toNat (↑s.1 : Int) *
  1))))) true (Ob.cells true)))) /\ (Plain (gC enG (uL (Row.mk (bCells s.3.1.1) false (Ob.cells true)) s.3.1.2 g.2 (bz s.3.2) (scB s.3.1.3) s.3.3 (Row.mk (List.take 400
  (List.drop (cellO (gC enB g.1) (0 + Int.toNat (↑s.1 : Int) * 1) + 0) (gCells (cellZ (gC enB g.1) (0 + Int.toNat (↑s.1 : Int) * 1))))) true (Ob.cells true)))) /\ True)) /\
  IsQ (Row.mk (bCells s.3.1.1) false (Ob.cells true)) s.3.1.2 (List.length s.3.1.1 - s.3.1.2) (bz s.3.2) (scB s.3.1.3) s.3.3 (Row.mk (List.take 400 (List.drop (cellO (gC enB
  g.1) (0 + Int.toNat (↑s.1 : Int) * 1) + 0) (gCells (cellZ (gC enB g.1) (0 + Int.toNat (↑s.1 : Int) * 1))))) true (Ob.cells true)) 400)))) /\ (((((0 + pM (Row.mk (bCells
  s.2.1.1) false (Ob.cells true)) s.2.1.2 g.2 (bz s.2.2) (scB s.2.1.3) s.2.3 (Row.mk (List.take 400 (List.drop 0 (bCells (padL (Row.mk (List.take 400 (List.drop (cellO (gC
  enB g.1) (0 + Int.toNat (↑s.1 : Int) * 1) + 0) (gCells (cellZ (gC enB g.1) (0 + Int.toNat (↑s.1 : Int) * 1))))) true (Ob.cells true)) (5 : Int))))) true (Ob.cells true)) *
  4 <= List.length (gC enG (pL (Row.mk (bCells s.2.1.1) false (Ob.cells true)) s.2.1.2 g.2 (bz s.2.2) (scB s.2.1.3) s.2.3 (Row.mk (List.take 400 (List.drop 0 (bCells (padL
  (Row.mk (List.take 400 (List.drop (cellO (gC enB g.1) (0 + Int.toNat (↑s.1 : Int) * 1) + 0) (gCells (cellZ (gC enB g.1) (0 + Int.toNat (↑s.1 : Int) * 1))))) true (Ob.cells
  true)) (5 : Int))))) true (Ob.cells true)))) /\ Plain (List.take (pM (Row.mk (bCells s.2.1.1) false (Ob.cells true)) s.2.1.2 g.2 (bz s.2.2) (scB s.2.1.3) s.2.3 (Row.mk
  (List.take 400 (List.drop 0 (bCells (padL (Row.mk (List.take 400 (List.drop (cellO (gC enB g.1) (0 + Int.toNat (↑s.1 : Int) * 1) + 0) (gCells (cellZ (gC enB g.1) (0 +
  Int.toNat (↑s.1 : Int) * 1))))) true (Ob.cells true)) (5 : Int))))) true (Ob.cells true)) * 4) (List.drop 0 (gC enG (pL (Row.mk (bCells s.2.1.1) false (Ob.cells true))
  s.2.1.2 g.2 (bz s.2.2) (scB s.2.1.3) s.2.3 (Row.mk (List.take 400 (List.drop 0 (bCells (padL (Row.mk (List.take 400 (List.drop (cellO (gC enB g.1) (0 + Int.toNat (↑s.1 :
  Int) * 1) + 0) (gCells (cellZ (gC enB g.1) (0 + Int.toNat (↑s.1 : Int) * 1))))) true (Ob.cells true)) (5 : Int))))) true (Ob.cells true))))))) /\ ((0 + uM (Row.mk (bCells
  s.3.1.1) false (Ob.cells true)) s.3.1.2 g.2 (bz s.3.2) (scB s.3.1.3) s.3.3 (Row.mk (List.take 400 (List.drop (cellO (gC enB g.1) (0 + Int.toNat (↑s.1 : Int) * 1) + 0)
  (gCells (cellZ (gC enB g.1) (0 + Int.toNat (↑s.1 : Int) * 1))))) true (Ob.cells true)) * 4 <= List.length (gC enG (uL (Row.mk (bCells s.3.1.1) false (Ob.cells true))
  s.3.1.2 g.2 (bz s.3.2) (scB s.3.1.3) s.3.3 (Row.mk (List.take 400 (List.drop (cellO (gC enB g.1) (0 + Int.toNat (↑s.1 : Int) * 1) + 0) (gCells (cellZ (gC enB g.1) (0 +
  Int.toNat (↑s.1 : Int) * 1))))) true (Ob.cells true)))) /\ Plain (List.take (uM (Row.mk (bCells s.3.1.1) false (Ob.cells true)) s.3.1.2 g.2 (bz s.3.2) (scB s.3.1.3) s.3.3
  (Row.mk (List.take 400 (List.drop (cellO (gC enB g.1) (0 + Int.toNat (↑s.1 : Int) * 1) + 0) (gCells (cellZ (gC enB g.1) (0 + Int.toNat (↑s.1 : Int) * 1))))) true (Ob.cells
  true)) * 4) (List.drop 0 (gC enG (uL (Row.mk (bCells s.3.1.1) false (Ob.cells true)) s.3.1.2 g.2 (bz s.3.2) (scB s.3.1.3) s.3.3 (Row.mk (List.take 400 (List.drop (cellO
  (gC enB g.1) (0 + Int.toNat (↑s.1 : Int) * 1) + 0) (gCells (cellZ (gC enB g.1) (0 + Int.toNat (↑s.1 : Int) * 1))))) true (Ob.cells true))))))) /\ True)) /\ ((True /\ (True
  /\ True)) /\ (True /\ (IsF (Row.mk (List.take (pM (Row.mk (bCells s.2.1.1) false (Ob.cells true)) s.2.1.2 g.2 (bz s.2.2) (scB s.2.1.3) s.2.3 (Row.mk (List.take 400
  (List.drop 0 (bCells (padL (Row.mk (List.take 400 (List.drop (cellO (gC enB g.1) (0 + Int.toNat (↑s.1 : Int) * 1) + 0) (gCells (cellZ (gC enB g.1) (0 + Int.toNat (↑s.1 :
  Int) * 1))))) true (Ob.cells true)) (5 : Int))))) true (Ob.cells true)) * 4) (List.drop 0 (gC enG (pL (Row.mk (bCells s.2.1.1) false (Ob.cells true)) s.2.1.2 g.2 (bz
  s.2.2) (scB s.2.1.3) s.2.3 (Row.mk (List.take 400 (List.drop 0 (bCells (padL (Row.mk (List.take 400 (List.drop (cellO (gC enB g.1) (0 + Int.toNat (↑s.1 : Int) * 1) + 0)
  (gCells (cellZ (gC enB g.1) (0 + Int.toNat (↑s.1 : Int) * 1))))) true (Ob.cells true)) (5 : Int))))) true (Ob.cells true)))))) true (Ob.cells true)) (pM (Row.mk (bCells
  s.2.1.1) false (Ob.cells true)) s.2.1.2 g.2 (bz s.2.2) (scB s.2.1.3) s.2.3 (Row.mk (List.take 400 (List.drop 0 (bCells (padL (Row.mk (List.take 400 (List.drop (cellO (gC
  enB g.1) (0 + Int.toNat (↑s.1 : Int) * 1) + 0) (gCells (cellZ (gC enB g.1) (0 + Int.toNat (↑s.1 : Int) * 1))))) true (Ob.cells true)) (5 : Int))))) true (Ob.cells true)))
  /\ (IsF (Row.mk (List.take (uM (Row.mk (bCells s.3.1.1) false (Ob.cells true)) s.3.1.2 g.2 (bz s.3.2) (scB s.3.1.3) s.3.3 (Row.mk (List.take 400 (List.drop (cellO (gC enB
  g.1) (0 + Int.toNat (↑s.1 : Int) * 1) + 0) (gCells (cellZ (gC enB g.1) (0 + Int.toNat (↑s.1 : Int) * 1))))) true (Ob.cells true)) * 4) (List.drop 0 (gC enG (uL (Row.mk
  (bCells s.3.1.1) false (Ob.cells true)) s.3.1.2 g.2 (bz s.3.2) (scB s.3.1.3) s.3.3 (Row.mk (List.take 400 (List.drop (cellO (gC enB g.1) (0 + Int.toNat (↑s.1 : Int) * 1) +
  0) (gCells (cellZ (gC enB g.1) (0 + Int.toNat (↑s.1 : Int) * 1))))) true (Ob.cells true)))))) true (Ob.cells true)) (uM (Row.mk (bCells s.3.1.1) false (Ob.cells true))
  s.3.1.2 g.2 (bz s.3.2) (scB s.3.1.3) s.3.3 (Row.mk (List.take 400 (List.drop (cellO (gC enB g.1) (0 + Int.toNat (↑s.1 : Int) * 1) + 0) (gCells (cellZ (gC enB g.1) (0 +
  Int.toNat (↑s.1 : Int) * 1))))) true (Ob.cells true))) /\ pM (Row.mk (bCells s.2.1.1) false (Ob.cells true)) s.2.1.2 g.2 (bz s.2.2) (scB s.2.1.3) s.2.3 (Row.mk (List.take
  400 (List.drop 0 (bCells (padL (Row.mk (List.take 400 (List.drop (cellO (gC enB g.1) (0 + Int.toNat (↑s.1 : Int) * 1) + 0) (gCells (cellZ (gC enB g.1) (0 + Int.toNat (↑s.1
  : Int) * 1))))) true (Ob.cells true)) (5 : Int))))) true (Ob.cells true)) <= 9223372036854775807)))))) /\ (br (!zF (Row.mk (List.take (pM (Row.mk (bCells s.2.1.1) false
  (Ob.cells true)) s.2.1.2 g.2 (bz s.2.2) (scB s.2.1.3) s.2.3 (Row.mk (List.take 400 (List.drop 0 (bCells (padL (Row.mk (List.take 400 (List.drop (cellO (gC enB g.1) (0 +
  Int.toNat (↑s.1 : Int) * 1) + 0) (gCells (cellZ (gC enB g.1) (0 + Int.toNat (↑s.1 : Int) * 1))))) true (Ob.cells true)) (5 : Int))))) true (Ob.cells true)) * 4) (List.drop
  0 (gC enG (pL (Row.mk (bCells s.2.1.1) false (Ob.cells true)) s.2.1.2 g.2 (bz s.2.2) (scB s.2.1.3) s.2.3 (Row.mk (List.take 400 (List.drop 0 (bCells (padL (Row.mk
  (List.take 400 (List.drop (cellO (gC enB g.1) (0 + Int.toNat (↑s.1 : Int) * 1) + 0) (gCells (cellZ (gC enB g.1) (0 + Int.toNat (↑s.1 : Int) * 1))))) true (Ob.cells true))
  (5 : Int))))) true (Ob.cells true)))))) true (Ob.cells true)) (Row.mk (List.take (uM (Row.mk (bCells s.3.1.1) false (Ob.cells true)) s.3.1.2 g.2 (bz s.3.2) (scB s.3.1.3)
  s.3.3 (Row.mk (List.take 400 (List.drop (cellO (gC enB g.1) (0 + Int.toNat (↑s.1 : Int) * 1) + 0) (gCells (cellZ (gC enB g.1) (0 + Int.toNat (↑s.1 : Int) * 1))))) true
  (Ob.cells true)) * 4) (List.drop 0 (gC enG (uL (Row.mk (bCells s.3.1.1) false (Ob.cells true)) s.3.1.2 g.2 (bz s.3.2) (scB s.3.1.3) s.3.3 (Row.mk (List.take 400 (List.drop
  (cellO (gC enB g.1) (0 + Int.toNat (↑s.1 : Int) * 1) + 0) (gCells (cellZ (gC enB g.1) (0 + Int.toNat (↑s.1 : Int) * 1))))) true (Ob.cells true)))))) true (Ob.cells true)))
  (∃ y : Unit, ((False) /\ ((false = false) /\ ((Eq (α := List Value) (gC enB o) (gC enB o)) /\ ((Plain (gC enB o)) /\ True))))) (br (!(pB (Row.mk (bCells s.2.1.1) false
  (Ob.cells true)) s.2.1.2 g.2 (bz s.2.2) (scB s.2.1.3) s.2.3 (Row.mk (List.take 400 (List.drop 0 (bCells (padL (Row.mk (List.take 400 (List.drop (cellO (gC enB g.1) (0 +
  Int.toNat (↑s.1 : Int) * 1) + 0) (gCells (cellZ (gC enB g.1) (0 + Int.toNat (↑s.1 : Int) * 1))))) true (Ob.cells true)) (5 : Int))))) true (Ob.cells true)) == uB (Row.mk
  (bCells s.3.1.1) false (Ob.cells true)) s.3.1.2 g.2 (bz s.3.2) (scB s.3.1.3) s.3.3 (Row.mk (List.take 400 (List.drop (cellO (gC enB g.1) (0 + Int.toNat (↑s.1 : Int) * 1) +
  0) (gCells (cellZ (gC enB g.1) (0 + Int.toNat (↑s.1 : Int) * 1))))) true (Ob.cells true)) && (pC (Row.mk (bCells s.2.1.1) false (Ob.cells true)) s.2.1.2 g.2 (bz s.2.2)
  (scB s.2.1.3) s.2.3 (Row.mk (List.take 400 (List.drop 0 (bCells (padL (Row.mk (List.take 400 (List.drop (cellO (gC enB g.1) (0 + Int.toNat (↑s.1 : Int) * 1) + 0) (gCells
  (cellZ (gC enB g.1) (0 + Int.toNat (↑s.1 : Int) * 1))))) true (Ob.cells true)) (5 : Int))))) true (Ob.cells true)) == uC (Row.mk (bCells s.3.1.1) false (Ob.cells true))
  s.3.1.2 g.2 (bz s.3.2) (scB s.3.1.3) s.3.3 (Row.mk (List.take 400 (List.drop (cellO (gC enB g.1) (0 + Int.toNat (↑s.1 : Int) * 1) + 0) (gCells (cellZ (gC enB g.1) (0 +
  Int.toNat (↑s.1 : Int) * 1))))) true (Ob.cells true)) && true))) ((Value.agg (Array.mk [Value.int IntKind.i64 (pB (Row.mk (bCells s.2.1.1) false (Ob.cells true)) s.2.1.2
  g.2 (bz s.2.2) (scB s.2.1.3) s.2.3 (Row.mk (List.take 400 (List.drop 0 (bCells (padL (Row.mk (List.take 400 (List.drop (cellO (gC enB g.1) (0 + Int.toNat (↑s.1 : Int) * 1)
  + 0) (gCells (cellZ (gC enB g.1) (0 + Int.toNat (↑s.1 : Int) * 1))))) true (Ob.cells true)) (5 : Int))))) true (Ob.cells true))), Value.int IntKind.i64 (pC (Row.mk (bCells
  s.2.1.1) false (Ob.cells true)) s.2.1.2 g.2 (bz s.2.2) (scB s.2.1.3) s.2.3 (Row.mk (List.take 400 (List.drop 0 (bCells (padL (Row.mk (List.take 400 (List.drop (cellO (gC
  enB g.1) (0 + Int.toNat (↑s.1 : Int) * 1) + 0) (gCells (cellZ (gC enB g.1) (0 + Int.toNat (↑s.1 : Int) * 1))))) true (Ob.cells true)) (5 : Int))))) true (Ob.cells true))),
  Value.int IntKind.i64 (0 : Int)]) = Value.agg (Array.mk [Value.int IntKind.i64 (pB (Row.mk (bCells s.2.1.1) false (Ob.cells true)) s.2.1.2 g.2 (bz s.2.2) (scB s.2.1.3)
  s.2.3 (Row.mk (List.take 400 (List.drop 0 (bCells (padL (Row.mk (List.take 400 (List.drop (cellO (gC enB g.1) (0 + Int.toNat (↑s.1 : Int) * 1) + 0) (gCells (cellZ (gC enB
  g.1) (0 + Int.toNat (↑s.1 : Int) * 1))))) true (Ob.cells true)) (5 : Int))))) true (Ob.cells true))), Value.int IntKind.i64 (pC (Row.mk (bCells s.2.1.1) false (Ob.cells
  true)) s.2.1.2 g.2 (bz s.2.2) (scB s.2.1.3) s.2.3 (Row.mk (List.take 400 (List.drop 0 (bCells (padL (Row.mk (List.take 400 (List.drop (cellO (gC enB g.1) (0 + Int.toNat
  (↑s.1 : Int) * 1) + 0) (gCells (cellZ (gC enB g.1) (0 + Int.toNat (↑s.1 : Int) * 1))))) true (Ob.cells true)) (5 : Int))))) true (Ob.cells true))), Value.int IntKind.i64
  (0 : Int)])) /\ ((Value.agg (Array.mk [Value.int IntKind.i64 (uB (Row.mk (bCells s.3.1.1) false (Ob.cells true)) s.3.1.2 g.2 (bz s.3.2) (scB s.3.1.3) s.3.3 (Row.mk
  (List.take 400 (List.drop (cellO (gC enB g.1) (0 + Int.toNat (↑s.1 : Int) * 1) + 0) (gCells (cellZ (gC enB g.1) (0 + Int.toNat (↑s.1 : Int) * 1))))) true (Ob.cells
  true))), Value.int IntKind.i64 (uC (Row.mk (bCells s.3.1.1) false (Ob.cells true)) s.3.1.2 g.2 (bz s.3.2) (scB s.3.1.3) s.3.3 (Row.mk (List.take 400 (List.drop (cellO (gC
  enB g.1) (0 + Int.toNat (↑s.1 : Int) * 1) + 0) (gCells (cellZ (gC enB g.1) (0 + Int.toNat (↑s.1 : Int) * 1))))) true (Ob.cells true))), Value.int IntKind.i64 (0 : Int)]) =
  Value.agg (Array.mk [Value.int IntKind.i64 (uB (Row.mk (bCells s.3.1.1) false (Ob.cells true)) s.3.1.2 g.2 (bz s.3.2) (scB s.3.1.3) s.3.3 (Row.mk (List.take 400 (List.drop
  (cellO (gC enB g.1) (0 + Int.toNat (↑s.1 : Int) * 1) + 0) (gCells (cellZ (gC enB g.1) (0 + Int.toNat (↑s.1 : Int) * 1))))) true (Ob.cells true))), Value.int IntKind.i64
  (uC (Row.mk (bCells s.3.1.1) false (Ob.cells true)) s.3.1.2 g.2 (bz s.3.2) (scB s.3.1.3) s.3.3 (Row.mk (List.take 400 (List.drop (cellO (gC enB g.1) (0 + Int.toNat (↑s.1 :
  Int) * 1) + 0) (gCells (cellZ (gC enB g.1) (0 + Int.toNat (↑s.1 : Int) * 1))))) true (Ob.cells true))), Value.int IntKind.i64 (0 : Int)])) /\ (∃ y : Unit, ((False) /\
  ((false = false) /\ ((Eq (α := List Value) (gC enB o) (gC enB o)) /\ ((Plain (gC enB o)) /\ True))))))) (br (Int.ofNat (pN (Row.mk (bCells s.2.1.1) false (Ob.cells true))
  s.2.1.2 g.2 (bz s.2.2) (scB s.2.1.3) s.2.3 (Row.mk (List.take 400 (List.drop 0 (bCells (padL (Row.mk (List.take 400 (List.drop (cellO (gC enB g.1) (0 + Int.toNat (↑s.1 :
  Int) * 1) + 0) (gCells (cellZ (gC enB g.1) (0 + Int.toNat (↑s.1 : Int) * 1))))) true (Ob.cells true)) (5 : Int))))) true (Ob.cells true))) != Int.ofNat (uN (Row.mk (bCells
  s.3.1.1) false (Ob.cells true)) s.3.1.2 g.2 (bz s.3.2) (scB s.3.1.3) s.3.3 (Row.mk (List.take 400 (List.drop (cellO (gC enB g.1) (0 + Int.toNat (↑s.1 : Int) * 1) + 0)
  (gCells (cellZ (gC enB g.1) (0 + Int.toNat (↑s.1 : Int) * 1))))) true (Ob.cells true)))) ((Value.agg (Array.mk [Value.int IntKind.i64 (pB (Row.mk (bCells s.2.1.1) false
  (Ob.cells true)) s.2.1.2 g.2 (bz s.2.2) (scB s.2.1.3) s.2.3 (Row.mk (List.take 400 (List.drop 0 (bCells (padL (Row.mk (List.take 400 (List.drop (cellO (gC enB g.1) (0 +
  Int.toNat (↑s.1 : Int) * 1) + 0) (gCells (cellZ (gC enB g.1) (0 + Int.toNat (↑s.1 : Int) * 1))))) true (Ob.cells true)) (5 : Int))))) true (Ob.cells true))), Value.int
  IntKind.i64 (pC (Row.mk (bCells s.2.1.1) false (Ob.cells true)) s.2.1.2 g.2 (bz s.2.2) (scB s.2.1.3) s.2.3 (Row.mk (List.take 400 (List.drop 0 (bCells (padL (Row.mk
  (List.take 400 (List.drop (cellO (gC enB g.1) (0 + Int.toNat (↑s.1 : Int) * 1) + 0) (gCells (cellZ (gC enB g.1) (0 + Int.toNat (↑s.1 : Int) * 1))))) true (Ob.cells true))
  (5 : Int))))) true (Ob.cells true))), Value.int IntKind.i64 (0 : Int)]) = Value.agg (Array.mk [Value.int IntKind.i64 (pB (Row.mk (bCells s.2.1.1) false (Ob.cells true))
  s.2.1.2 g.2 (bz s.2.2) (scB s.2.1.3) s.2.3 (Row.mk (List.take 400 (List.drop 0 (bCells (padL (Row.mk (List.take 400 (List.drop (cellO (gC enB g.1) (0 + Int.toNat (↑s.1 :
  Int) * 1) + 0) (gCells (cellZ (gC enB g.1) (0 + Int.toNat (↑s.1 : Int) * 1))))) true (Ob.cells true)) (5 : Int))))) true (Ob.cells true))), Value.int IntKind.i64 (pC
  (Row.mk (bCells s.2.1.1) false (Ob.cells true)) s.2.1.2 g.2 (bz s.2.2) (scB s.2.1.3) s.2.3 (Row.mk (List.take 400 (List.drop 0 (bCells (padL (Row.mk (List.take 400
  (List.drop (cellO (gC enB g.1) (0 + Int.toNat (↑s.1 : Int) * 1) + 0) (gCells (cellZ (gC enB g.1) (0 + Int.toNat (↑s.1 : Int) * 1))))) true (Ob.cells true)) (5 : Int)))))
  true (Ob.cells true))), Value.int IntKind.i64 (0 : Int)])) /\ ((Value.agg (Array.mk [Value.int IntKind.i64 (uB (Row.mk (bCells s.3.1.1) false (Ob.cells true)) s.3.1.2 g.2
  (bz s.3.2) (scB s.3.1.3) s.3.3 (Row.mk (List.take 400 (List.drop (cellO (gC enB g.1) (0 + Int.toNat (↑s.1 : Int) * 1) + 0) (gCells (cellZ (gC enB g.1) (0 + Int.toNat (↑s.1
  : Int) * 1))))) true (Ob.cells true))), Value.int IntKind.i64 (uC (Row.mk (bCells s.3.1.1) false (Ob.cells true)) s.3.1.2 g.2 (bz s.3.2) (scB s.3.1.3) s.3.3 (Row.mk
  (List.take 400 (List.drop (cellO (gC enB g.1) (0 + Int.toNat (↑s.1 : Int) * 1) + 0) (gCells (cellZ (gC enB g.1) (0 + Int.toNat (↑s.1 : Int) * 1))))) true (Ob.cells
  true))), Value.int IntKind.i64 (0 : Int)]) = Value.agg (Array.mk [Value.int IntKind.i64 (uB (Row.mk (bCells s.3.1.1) false (Ob.cells true)) s.3.1.2 g.2 (bz s.3.2) (scB
  s.3.1.3) s.3.3 (Row.mk (List.take 400 (List.drop (cellO (gC enB g.1) (0 + Int.toNat (↑s.1 : Int) * 1) + 0) (gCells (cellZ (gC enB g.1) (0 + Int.toNat (↑s.1 : Int) * 1)))))
  true (Ob.cells true))), Value.int IntKind.i64 (uC (Row.mk (bCells s.3.1.1) false (Ob.cells true)) s.3.1.2 g.2 (bz s.3.2) (scB s.3.1.3) s.3.3 (Row.mk (List.take 400
  (List.drop (cellO (gC enB g.1) (0 + Int.toNat (↑s.1 : Int) * 1) + 0) (gCells (cellZ (gC enB g.1) (0 + Int.toNat (↑s.1 : Int) * 1))))) true (Ob.cells true))), Value.int
  IntKind.i64 (0 : Int)])) /\ ((Value.slice (some (Addr.mk 14 (0 + uK (Row.mk (bCells s.3.1.1) false (Ob.cells true)) s.3.1.2 g.2 (bz s.3.2) (scB s.3.1.3) s.3.3 (Row.mk
  (List.take 400 (List.drop (cellO (gC enB g.1) (0 + Int.toNat (↑s.1 : Int) * 1) + 0) (gCells (cellZ (gC enB g.1) (0 + Int.toNat (↑s.1 : Int) * 1))))) true (Ob.cells true)))
  none)) (uN (Row.mk (bCells s.3.1.1) false (Ob.cells true)) s.3.1.2 g.2 (bz s.3.2) (scB s.3.1.3) s.3.3 (Row.mk (List.take 400 (List.drop (cellO (gC enB g.1) (0 + Int.toNat
  (↑s.1 : Int) * 1) + 0) (gCells (cellZ (gC enB g.1) (0 + Int.toNat (↑s.1 : Int) * 1))))) true (Ob.cells true))) 1 = Value.slice (some (Addr.mk 14 (0 + uK (Row.mk (bCells
  s.3.1.1) false (Ob.cells true)) s.3.1.2 g.2 (bz s.3.2) (scB s.3.1.3) s.3.3 (Row.mk (List.take 400 (List.drop (cellO (gC enB g.1) (0 + Int.toNat (↑s.1 : Int) * 1) + 0)
  (gCells (cellZ (gC enB g.1) (0 + Int.toNat (↑s.1 : Int) * 1))))) true (Ob.cells true))) none)) (uN (Row.mk (bCells s.3.1.1) false (Ob.cells true)) s.3.1.2 g.2 (bz s.3.2)
  (scB s.3.1.3) s.3.3 (Row.mk (List.take 400 (List.drop (cellO (gC enB g.1) (0 + Int.toNat (↑s.1 : Int) * 1) + 0) (gCells (cellZ (gC enB g.1) (0 + Int.toNat (↑s.1 : Int) *
  1))))) true (Ob.cells true))) 1) /\ ((Value.slice (some (Addr.mk 14 (0 + uK (Row.mk (bCells s.3.1.1) false (Ob.cells true)) s.3.1.2 g.2 (bz s.3.2) (scB s.3.1.3) s.3.3
  (Row.mk (List.take 400 (List.drop (cellO (gC enB g.1) (0 + Int.toNat (↑s.1 : Int) * 1) + 0) (gCells (cellZ (gC enB g.1) (0 + Int.toNat (↑s.1 : Int) * 1))))) true (Ob.cells
  true))) none)) (uN (Row.mk (bCells s.3.1.1) false (Ob.cells true)) s.3.1.2 g.2 (bz s.3.2) (scB s.3.1.3) s.3.3 (Row.mk (List.take 400 (List.drop (cellO (gC enB g.1) (0 +
  Int.toNat (↑s.1 : Int) * 1) + 0) (gCells (cellZ (gC enB g.1) (0 + Int.toNat (↑s.1 : Int) * 1))))) true (Ob.cells true))) 1 = Value.slice (some (Addr.mk 14 (0 + uK (Row.mk
  (bCells s.3.1.1) false (Ob.cells true)) s.3.1.2 g.2 (bz s.3.2) (scB s.3.1.3) s.3.3 (Row.mk (List.take 400 (List.drop (cellO (gC enB g.1) (0 + Int.toNat (↑s.1 : Int) * 1) +
  0) (gCells (cellZ (gC enB g.1) (0 + Int.toNat (↑s.1 : Int) * 1))))) true (Ob.cells true))) none)) (uN (Row.mk (bCells s.3.1.1) false (Ob.cells true)) s.3.1.2 g.2 (bz
  s.3.2) (scB s.3.1.3) s.3.3 (Row.mk (List.take 400 (List.drop (cellO (gC enB g.1) (0 + Int.toNat (↑s.1 : Int) * 1) + 0) (gCells (cellZ (gC enB g.1) (0 + Int.toNat (↑s.1 :
  Int) * 1))))) true (Ob.cells true))) 1) /\ (∃ y : Unit, ((False) /\ ((false = false) /\ ((Eq (α := List Value) (gC enB o) (gC enB o)) /\ ((Plain (gC enB o)) /\
  True))))))))) (((((480 <= List.length (bCells (padL (Row.mk (List.take 400 (List.drop (cellO (gC enB g.1) (0 + Int.toNat (↑s.1 : Int) * 1) + 0) (gCells (cellZ (gC enB g.1)
  (0 + Int.toNat (↑s.1 : Int) * 1))))) true (Ob.cells true)) (5 : Int))) /\ Plain (List.take 480 (List.drop 0 (bCells (padL (Row.mk (List.take 400 (List.drop (cellO (gC enB
  g.1) (0 + Int.toNat (↑s.1 : Int) * 1) + 0) (gCells (cellZ (gC enB g.1) (0 + Int.toNat (↑s.1 : Int) * 1))))) true (Ob.cells true)) (5 : Int)))))) /\ (cellO (gC enB g.1) (0
  + Int.toNat (↑s.1 : Int) * 1) + 0 + 400 <= List.length (gCells (cellZ (gC enB g.1) (0 + Int.toNat (↑s.1 : Int) * 1))) /\ (True /\ True))) /\ ((True /\ (True /\ True)) /\
  (True /\ (IsB (Row.mk (List.take 480 (List.drop 0 (bCells (padL (Row.mk (List.take 400 (List.drop (cellO (gC enB g.1) (0 + Int.toNat (↑s.1 : Int) * 1) + 0) (gCells (cellZ
  (gC enB g.1) (0 + Int.toNat (↑s.1 : Int) * 1))))) true (Ob.cells true)) (5 : Int))))) true (Ob.cells true)) 480 /\ (IsB (Row.mk (List.take 400 (List.drop (cellO (gC enB
  g.1) (0 + Int.toNat (↑s.1 : Int) * 1) + 0) (gCells (cellZ (gC enB g.1) (0 + Int.toNat (↑s.1 : Int) * 1))))) true (Ob.cells true)) 400 /\ (IsU8 (5 : Int) /\ (Int.toNat (400
  : Int) - Int.toNat (↑0 : Int) + 80 <= maxLen /\ Int.toNat (400 : Int) - Int.toNat (↑0 : Int) <= 9223372036854775000)))))))) /\ ((Value.agg (Array.mk [Value.int IntKind.i64
  (pB (Row.mk (bCells s.2.1.1) false (Ob.cells true)) s.2.1.2 g.2 (bz s.2.2) (scB s.2.1.3) s.2.3 (Row.mk (List.take 400 (List.drop 0 (bCells (padL (Row.mk (List.take 400
  (List.drop (cellO (gC enB g.1) (0 + Int.toNat (↑s.1 : Int) * 1) + 0) (gCells (cellZ (gC enB g.1) (0 + Int.toNat (↑s.1 : Int) * 1))))) true (Ob.cells true)) (5 : Int)))))
  true (Ob.cells true))), Value.int IntKind.i64 (pC (Row.mk (bCells s.2.1.1) false (Ob.cells true)) s.2.1.2 g.2 (bz s.2.2) (scB s.2.1.3) s.2.3 (Row.mk (List.take 400
  (List.drop 0 (bCells (padL (Row.mk (List.take 400 (List.drop (cellO (gC enB g.1) (0 + Int.toNat (↑s.1 : Int) * 1) + 0) (gCells (cellZ (gC enB g.1) (0 + Int.toNat (↑s.1 :
  Int) * 1))))) true (Ob.cells true)) (5 : Int))))) true (Ob.cells true))), Value.int IntKind.i64 (0 : Int)]) = Value.agg (Array.mk [Value.int IntKind.i64 (pB (Row.mk
  (bCells s.2.1.1) false (Ob.cells true)) s.2.1.2 g.2 (bz s.2.2) (scB s.2.1.3) s.2.3 (Row.mk (List.take 400 (List.drop 0 (bCells (padL (Row.mk (List.take 400 (List.drop
  (cellO (gC enB g.1) (0 + Int.toNat (↑s.1 : Int) * 1) + 0) (gCells (cellZ (gC enB g.1) (0 + Int.toNat (↑s.1 : Int) * 1))))) true (Ob.cells true)) (5 : Int))))) true
  (Ob.cells true))), Value.int IntKind.i64 (pC (Row.mk (bCells s.2.1.1) false (Ob.cells true)) s.2.1.2 g.2 (bz s.2.2) (scB s.2.1.3) s.2.3 (Row.mk (List.take 400 (List.drop 0
  (bCells (padL (Row.mk (List.take 400 (List.drop (cellO (gC enB g.1) (0 + Int.toNat (↑s.1 : Int) * 1) + 0) (gCells (cellZ (gC enB g.1) (0 + Int.toNat (↑s.1 : Int) * 1)))))
  true (Ob.cells true)) (5 : Int))))) true (Ob.cells true))), Value.int IntKind.i64 (0 : Int)])) /\ ((Value.agg (Array.mk [Value.int IntKind.i64 (uB (Row.mk (bCells s.3.1.1)
  false (Ob.cells true)) s.3.1.2 g.2 (bz s.3.2) (scB s.3.1.3) s.3.3 (Row.mk (List.take 400 (List.drop (cellO (gC enB g.1) (0 + Int.toNat (↑s.1 : Int) * 1) + 0) (gCells
  (cellZ (gC enB g.1) (0 + Int.toNat (↑s.1 : Int) * 1))))) true (Ob.cells true))), Value.int IntKind.i64 (uC (Row.mk (bCells s.3.1.1) false (Ob.cells true)) s.3.1.2 g.2 (bz
  s.3.2) (scB s.3.1.3) s.3.3 (Row.mk (List.take 400 (List.drop (cellO (gC enB g.1) (0 + Int.toNat (↑s.1 : Int) * 1) + 0) (gCells (cellZ (gC enB g.1) (0 + Int.toNat (↑s.1 :
  Int) * 1))))) true (Ob.cells true))), Value.int IntKind.i64 (0 : Int)]) = Value.agg (Array.mk [Value.int IntKind.i64 (uB (Row.mk (bCells s.3.1.1) false (Ob.cells true))
  s.3.1.2 g.2 (bz s.3.2) (scB s.3.1.3) s.3.3 (Row.mk (List.take 400 (List.drop (cellO (gC enB g.1) (0 + Int.toNat (↑s.1 : Int) * 1) + 0) (gCells (cellZ (gC enB g.1) (0 +
  Int.toNat (↑s.1 : Int) * 1))))) true (Ob.cells true))), Value.int IntKind.i64 (uC (Row.mk (bCells s.3.1.1) false (Ob.cells true)) s.3.1.2 g.2 (bz s.3.2) (scB s.3.1.3)
  s.3.3 (Row.mk (List.take 400 (List.drop (cellO (gC enB g.1) (0 + Int.toNat (↑s.1 : Int) * 1) + 0) (gCells (cellZ (gC enB g.1) (0 + Int.toNat (↑s.1 : Int) * 1))))) true
  (Ob.cells true))), Value.int IntKind.i64 (0 : Int)])) /\ ((Value.slice (some (Addr.mk 14 (0 + uK (Row.mk (bCells s.3.1.1) false (Ob.cells true)) s.3.1.2 g.2 (bz s.3.2)
  (scB s.3.1.3) s.3.3 (Row.mk (List.take 400 (List.drop (cellO (gC enB g.1) (0 + Int.toNat (↑s.1 : Int) * 1) + 0) (gCells (cellZ (gC enB g.1) (0 + Int.toNat (↑s.1 : Int) *
  1))))) true (Ob.cells true))) none)) (uN (Row.mk (bCells s.3.1.1) false (Ob.cells true)) s.3.1.2 g.2 (bz s.3.2) (scB s.3.1.3) s.3.3 (Row.mk (List.take 400 (List.drop
  (cellO (gC enB g.1) (0 + Int.toNat (↑s.1 : Int) * 1) + 0) (gCells (cellZ (gC enB g.1) (0 + Int.toNat (↑s.1 : Int) * 1))))) true (Ob.cells true))) 1 = Value.slice (some
  (Addr.mk 14 (0 + uK (Row.mk (bCells s.3.1.1) false (Ob.cells true)) s.3.1.2 g.2 (bz s.3.2) (scB s.3.1.3) s.3.3 (Row.mk (List.take 400 (List.drop (cellO (gC enB g.1) (0 +
  Int.toNat (↑s.1 : Int) * 1) + 0) (gCells (cellZ (gC enB g.1) (0 + Int.toNat (↑s.1 : Int) * 1))))) true (Ob.cells true))) none)) (uN (Row.mk (bCells s.3.1.1) false
  (Ob.cells true)) s.3.1.2 g.2 (bz s.3.2) (scB s.3.1.3) s.3.3 (Row.mk (List.take 400 (List.drop (cellO (gC enB g.1) (0 + Int.toNat (↑s.1 : Int) * 1) + 0) (gCells (cellZ (gC
  enB g.1) (0 + Int.toNat (↑s.1 : Int) * 1))))) true (Ob.cells true))) 1) /\ ((Value.slice (some (Addr.mk 14 (0 + uK (Row.mk (bCells s.3.1.1) false (Ob.cells true)) s.3.1.2
  g.2 (bz s.3.2) (scB s.3.1.3) s.3.3 (Row.mk (List.take 400 (List.drop (cellO (gC enB g.1) (0 + Int.toNat (↑s.1 : Int) * 1) + 0) (gCells (cellZ (gC enB g.1) (0 + Int.toNat
  (↑s.1 : Int) * 1))))) true (Ob.cells true))) none)) (uN (Row.mk (bCells s.3.1.1) false (Ob.cells true)) s.3.1.2 g.2 (bz s.3.2) (scB s.3.1.3) s.3.3 (Row.mk (List.take 400
  (List.drop (cellO (gC enB g.1) (0 + Int.toNat (↑s.1 : Int) * 1) + 0) (gCells (cellZ (gC enB g.1) (0 + Int.toNat (↑s.1 : Int) * 1))))) true (Ob.cells true))) 1 =
  Value.slice (some (Addr.mk 14 (0 + uK (Row.mk (bCells s.3.1.1) false (Ob.cells true)) s.3.1.2 g.2 (bz s.3.2) (scB s.3.1.3) s.3.3 (Row.mk (List.take 400 (List.drop (cellO
  (gC enB g.1) (0 + Int.toNat (↑s.1 : Int) * 1) + 0) (gCells (cellZ (gC enB g.1) (0 + Int.toNat (↑s.1 : Int) * 1))))) true (Ob.cells true))) none)) (uN (Row.mk (bCells
  s.3.1.1) false (Ob.cells true)) s.3.1.2 g.2 (bz s.3.2) (scB s.3.1.3) s.3.3 (Row.mk (List.take 400 (List.drop (cellO (gC enB g.1) (0 + Int.toNat (↑s.1 : Int) * 1) + 0)
  (gCells (cellZ (gC enB g.1) (0 + Int.toNat (↑s.1 : Int) * 1))))) true (Ob.cells true))) 1) /\ (br (!inI (Row.mk (List.take 480 (List.drop 0 (bCells (padL (Row.mk
  (List.take 400 (List.drop (cellO (gC enB g.1) (0 + Int.toNat (↑s.1 : Int) * 1) + 0) (gCells (cellZ (gC enB g.1) (0 + Int.toNat (↑s.1 : Int) * 1))))) true (Ob.cells true))
  (5 : Int))))) true (Ob.cells true)) (Row.mk (List.take 400 (List.drop (cellO (gC enB g.1) (0 + Int.toNat (↑s.1 : Int) * 1) + 0) (gCells (cellZ (gC enB g.1) (0 + Int.toNat
  (↑s.1 : Int) * 1))))) true (Ob.cells true)) (5 : Int)) (∃ y : Unit, ((False) /\ ((false = false) /\ ((Eq (α := List Value) (gC enB o) (gC enB o)) /\ ((Plain (gC enB o)) /\
  True))))) (∃ j : Sr, ((Inv j) /\ ((q j < q s) /\ ((0 = 0) /\ ((List.length g.1 = List.length g.1) /\ ((0 = 0) /\ ((0 = 0) /\ (((↑j.1 : Int) = IntKind.wrap IntKind.i64
  ((↑s.1 : Int) + (1 : Int))) /\ ((Eq (α := List Value) (gC enB o) (gC enB o)) /\ ((Plain (gC enB o)) /\ ((j.2.1.2 = 0 + pK (Row.mk (bCells s.2.1.1) false (Ob.cells true))
  s.2.1.2 g.2 (bz s.2.2) (scB s.2.1.3) s.2.3 (Row.mk (List.take 400 (List.drop 0 (bCells (padL (Row.mk (List.take 400 (List.drop (cellO (gC enB g.1) (0 + Int.toNat (↑s.1 :
  Int) * 1) + 0) (gCells (cellZ (gC enB g.1) (0 + Int.toNat (↑s.1 : Int) * 1))))) true (Ob.cells true)) (5 : Int))))) true (Ob.cells true))) /\ ((List.length j.2.1.1 -
  j.2.1.2 = pN (Row.mk (bCells s.2.1.1) false (Ob.cells true)) s.2.1.2 g.2 (bz s.2.2) (scB s.2.1.3) s.2.3 (Row.mk (List.take 400 (List.drop 0 (bCells (padL (Row.mk
  (List.take 400 (List.drop (cellO (gC enB g.1) (0 + Int.toNat (↑s.1 : Int) * 1) + 0) (gCells (cellZ (gC enB g.1) (0 + Int.toNat (↑s.1 : Int) * 1))))) true (Ob.cells true))
  (5 : Int))))) true (Ob.cells true))) /\ ((g.2 = g.2) /\ ((bz j.2.2 = pT (Row.mk (bCells s.2.1.1) false (Ob.cells true)) s.2.1.2 g.2 (bz s.2.2) (scB s.2.1.3) s.2.3 (Row.mk
  (List.take 400 (List.drop 0 (bCells (padL (Row.mk (List.take 400 (List.drop (cellO (gC enB g.1) (0 + Int.toNat (↑s.1 : Int) * 1) + 0) (gCells (cellZ (gC enB g.1) (0 +
  Int.toNat (↑s.1 : Int) * 1))))) true (Ob.cells true)) (5 : Int))))) true (Ob.cells true))) /\ ((scB j.2.1.3 = pB (Row.mk (bCells s.2.1.1) false (Ob.cells true)) s.2.1.2
  g.2 (bz s.2.2) (scB s.2.1.3) s.2.3 (Row.mk (List.take 400 (List.drop 0 (bCells (padL (Row.mk (List.take 400 (List.drop (cellO (gC enB g.1) (0 + Int.toNat (↑s.1 : Int) * 1)
  + 0) (gCells (cellZ (gC enB g.1) (0 + Int.toNat (↑s.1 : Int) * 1))))) true (Ob.cells true)) (5 : Int))))) true (Ob.cells true))) /\ ((j.2.3 = pC (Row.mk (bCells s.2.1.1)
  false (Ob.cells true)) s.2.1.2 g.2 (bz s.2.2) (scB s.2.1.3) s.2.3 (Row.mk (List.take 400 (List.drop 0 (bCells (padL (Row.mk (List.take 400 (List.drop (cellO (gC enB g.1)
  (0 + Int.toNat (↑s.1 : Int) * 1) + 0) (gCells (cellZ (gC enB g.1) (0 + Int.toNat (↑s.1 : Int) * 1))))) true (Ob.cells true)) (5 : Int))))) true (Ob.cells true))) /\ (((0 :
  Int) = (0 : Int)) /\ ((Eq (α := List Value) (bCells j.2.1.1) (bCells (pX (Row.mk (bCells s.2.1.1) false (Ob.cells true)) s.2.1.2 g.2 (bz s.2.2) (scB s.2.1.3) s.2.3 (Row.mk
  (List.take 400 (List.drop 0 (bCells (padL (Row.mk (List.take 400 (List.drop (cellO (gC enB g.1) (0 + Int.toNat (↑s.1 : Int) * 1) + 0) (gCells (cellZ (gC enB g.1) (0 +
  Int.toNat (↑s.1 : Int) * 1))))) true (Ob.cells true)) (5 : Int))))) true (Ob.cells true))))) /\ ((Plain (bCells j.2.1.1)) /\ ((j.3.1.2 = 0 + uK (Row.mk (bCells s.3.1.1)
  false (Ob.cells true)) s.3.1.2 g.2 (bz s.3.2) (scB s.3.1.3) s.3.3 (Row.mk (List.take 400 (List.drop (cellO (gC enB g.1) (0 + Int.toNat (↑s.1 : Int) * 1) + 0) (gCells
  (cellZ (gC enB g.1) (0 + Int.toNat (↑s.1 : Int) * 1))))) true (Ob.cells true))) /\ ((List.length j.3.1.1 - j.3.1.2 = uN (Row.mk (bCells s.3.1.1) false (Ob.cells true))
  s.3.1.2 g.2 (bz s.3.2) (scB s.3.1.3) s.3.3 (Row.mk (List.take 400 (List.drop (cellO (gC enB g.1) (0 + Int.toNat (↑s.1 : Int) * 1) + 0) (gCells (cellZ (gC enB g.1) (0 +
  Int.toNat (↑s.1 : Int) * 1))))) true (Ob.cells true))) /\ ((bz j.3.2 = uT (Row.mk (bCells s.3.1.1) false (Ob.cells true)) s.3.1.2 g.2 (bz s.3.2) (scB s.3.1.3) s.3.3
  (Row.mk (List.take 400 (List.drop (cellO (gC enB g.1) (0 + Int.toNat (↑s.1 : Int) * 1) + 0) (gCells (cellZ (gC enB g.1) (0 + Int.toNat (↑s.1 : Int) * 1))))) true (Ob.cells
  true))) /\ ((g.2 = g.2) /\ ((scB j.3.1.3 = uB (Row.mk (bCells s.3.1.1) false (Ob.cells true)) s.3.1.2 g.2 (bz s.3.2) (scB s.3.1.3) s.3.3 (Row.mk (List.take 400 (List.drop
  (cellO (gC enB g.1) (0 + Int.toNat (↑s.1 : Int) * 1) + 0) (gCells (cellZ (gC enB g.1) (0 + Int.toNat (↑s.1 : Int) * 1))))) true (Ob.cells true))) /\ ((j.3.3 = uC (Row.mk
  (bCells s.3.1.1) false (Ob.cells true)) s.3.1.2 g.2 (bz s.3.2) (scB s.3.1.3) s.3.3 (Row.mk (List.take 400 (List.drop (cellO (gC enB g.1) (0 + Int.toNat (↑s.1 : Int) * 1) +
  0) (gCells (cellZ (gC enB g.1) (0 + Int.toNat (↑s.1 : Int) * 1))))) true (Ob.cells true))) /\ (((0 : Int) = (0 : Int)) /\ ((Eq (α := List Value) (bCells j.3.1.1) (bCells
  (uX (Row.mk (bCells s.3.1.1) false (Ob.cells true)) s.3.1.2 g.2 (bz s.3.2) (scB s.3.1.3) s.3.3 (Row.mk (List.take 400 (List.drop (cellO (gC enB g.1) (0 + Int.toNat (↑s.1 :
  Int) * 1) + 0) (gCells (cellZ (gC enB g.1) (0 + Int.toNat (↑s.1 : Int) * 1))))) true (Ob.cells true))))) /\ ((Plain (bCells j.3.1.1)) /\ ((Eq (α := List Value) (gC enB
  g.1) (gC enB g.1)) /\ ((Plain (gC enB g.1)) /\ True))))))))))))))))))))))))))))))))))))))))))) False) ((((cellO (gC enB g.1) (0 + Int.toNat (↑s.1 : Int) * 1) + cellN (gC
  enB g.1) (0 + Int.toNat (↑s.1 : Int) * 1) * 1 <= List.length (gCells (cellZ (gC enB g.1) (0 + Int.toNat (↑s.1 : Int) * 1))) /\ (True /\ True)) /\ ((True /\ True) /\
  ((Plain (bCells (padL (Row.mk (List.take (cellN (gC enB g.1) (0 + Int.toNat (↑s.1 : Int) * 1) * 1) (List.drop (cellO (gC enB g.1) (0 + Int.toNat (↑s.1 : Int) * 1)) (gCells
  (cellZ (gC enB g.1) (0 + Int.toNat (↑s.1 : Int) * 1))))) true (Ob.cells true)) (5 : Int))) /\ True) /\ (IsB (Row.mk (List.take (cellN (gC enB g.1) (0 + Int.toNat (↑s.1 :
  Int) * 1) * 1) (List.drop (cellO (gC enB g.1) (0 + Int.toNat (↑s.1 : Int) * 1)) (gCells (cellZ (gC enB g.1) (0 + Int.toNat (↑s.1 : Int) * 1))))) true (Ob.cells true))
  (cellN (gC enB g.1) (0 + Int.toNat (↑s.1 : Int) * 1)) /\ (IsU8 (5 : Int) /\ cellN (gC enB g.1) (0 + Int.toNat (↑s.1 : Int) * 1) <= 16777136)))))) /\ (br (decide ((0 : Int)
  <= (↑0 : Int) /\ (0 : Int) <= Int.ofNat (cellN (gC enB g.1) (0 + Int.toNat (↑s.1 : Int) * 1)) /\ Int.ofNat (cellN (gC enB g.1) (0 + Int.toNat (↑s.1 : Int) * 1)) <=
  (↑(cellN (gC enB g.1) (0 + Int.toNat (↑s.1 : Int) * 1) + 80) : Int))) ((((True /\ ((0 + (Int.toNat (Int.ofNat (cellN (gC enB g.1) (0 + Int.toNat (↑s.1 : Int) * 1))) - 0) *
  1 <= List.length (bCells (padL (Row.mk (List.take (cellN (gC enB g.1) (0 + Int.toNat (↑s.1 : Int) * 1) * 1) (List.drop (cellO (gC enB g.1) (0 + Int.toNat (↑s.1 : Int) *
  1)) (gCells (cellZ (gC enB g.1) (0 + Int.toNat (↑s.1 : Int) * 1))))) true (Ob.cells true)) (5 : Int))) /\ Plain (List.take ((Int.toNat (Int.ofNat (cellN (gC enB g.1) (0 +
  Int.toNat (↑s.1 : Int) * 1))) - 0) * 1) (List.drop 0 (bCells (padL (Row.mk (List.take (cellN (gC enB g.1) (0 + Int.toNat (↑s.1 : Int) * 1) * 1) (List.drop (cellO (gC enB
  g.1) (0 + Int.toNat (↑s.1 : Int) * 1)) (gCells (cellZ (gC enB g.1) (0 + Int.toNat (↑s.1 : Int) * 1))))) true (Ob.cells true)) (5 : Int)))))) /\ True)) /\ (((True /\ (True
  /\ (True /\ (True /\ (True /\ (True /\ True)))))) /\ (True /\ (Plain (bCells s.2.1.1) /\ True))) /\ ((Plain (bCells (pX (Row.mk (bCells s.2.1.1) false (Ob.cells true))
  s.2.1.2 g.2 (bz s.2.2) (scB s.2.1.3) s.2.3 (Row.mk (List.take ((Int.toNat (Int.ofNat (cellN (gC enB g.1) (0 + Int.toNat (↑s.1 : Int) * 1))) - 0) * 1) (List.drop 0 (bCells
  (padL (Row.mk (List.take (cellN (gC enB g.1) (0 + Int.toNat (↑s.1 : Int) * 1) * 1) (List.drop (cellO (gC enB g.1) (0 + Int.toNat (↑s.1 : Int) * 1)) (gCells (cellZ (gC enB
  g.1) (0 + Int.toNat (↑s.1 : Int) * 1))))) true (Ob.cells true)) (5 : Int))))) true (Ob.cells true)))) /\ (Plain (gC enG (pL (Row.mk (bCells s.2.1.1) false (Ob.cells true))
  s.2.1.2 g.2 (bz s.2.2) (scB s.2.1.3) s.2.3 (Row.mk (List.take ((Int.toNat (Int.ofNat (cellN (gC enB g.1) (0 + Int.toNat (↑s.1 : Int) * 1))) - 0) * 1) (List.drop 0 (bCells
  (padL (Row.mk (List.take (cellN (gC enB g.1) (0 + Int.toNat (↑s.1 : Int) * 1) * 1) (List.drop (cellO (gC enB g.1) (0 + Int.toNat (↑s.1 : Int) * 1)) (gCells (cellZ (gC enB
  g.1) (0 + Int.toNat (↑s.1 : Int) * 1))))) true (Ob.cells true)) (5 : Int))))) true (Ob.cells true)))) /\ True)) /\ IsQ (Row.mk (bCells s.2.1.1) false (Ob.cells true))
  s.2.1.2 (List.length s.2.1.1 - s.2.1.2) (bz s.2.2) (scB s.2.1.3) s.2.3 (Row.mk (List.take ((Int.toNat (Int.ofNat (cellN (gC enB g.1) (0 + Int.toNat (↑s.1 : Int) * 1))) -
  0) * 1) (List.drop 0 (bCells (padL (Row.mk (List.take (cellN (gC enB g.1) (0 + Int.toNat (↑s.1 : Int) * 1) * 1) (List.drop (cellO (gC enB g.1) (0 + Int.toNat (↑s.1 : Int)
  * 1)) (gCells (cellZ (gC enB g.1) (0 + Int.toNat (↑s.1 : Int) * 1))))) true (Ob.cells true)) (5 : Int))))) true (Ob.cells true)) (Int.toNat (Int.ofNat (cellN (gC enB g.1)
  (0 + Int.toNat (↑s.1 : Int) * 1))) - 0))))) /\ ((((True /\ (cellO (gC enB g.1) (0 + Int.toNat (↑s.1 : Int) * 1) + cellN (gC enB g.1) (0 + Int.toNat (↑s.1 : Int) * 1) * 1
  <= List.length (gCells (cellZ (gC enB g.1) (0 + Int.toNat (↑s.1 : Int) * 1))) /\ True)) /\ (((True /\ (True /\ (True /\ (True /\ (True /\ (True /\ True)))))) /\ (True /\
  (Plain (bCells s.3.1.1) /\ True))) /\ ((Plain (bCells (uX (Row.mk (bCells s.3.1.1) false (Ob.cells true)) s.3.1.2 g.2 (bz s.3.2) (scB s.3.1.3) s.3.3 (Row.mk (List.take
  (cellN (gC enB g.1) (0 + Int.toNat (↑s.1 : Int) * 1) * 1) (List.drop (cellO (gC enB g.1) (0 + Int.toNat (↑s.1 : Int) * 1)) (gCells (cellZ (gC enB g.1) (0 + Int.toNat (↑s.1
  : Int) * 1))))) true (Ob.cells true)))) /\ (Plain (gC enG (uL (Row.mk (bCells s.3.1.1) false (Ob.cells true)) s.3.1.2 g.2 (bz s.3.2) (scB s.3.1.3) s.3.3 (Row.mk (List.take
  (cellN (gC enB g.1) (0 + Int.toNat (↑s.1 : Int) * 1) * 1) (List.drop (cellO (gC enB g.1) (0 + Int.toNat (↑s.1 : Int) * 1)) (gCells (cellZ (gC enB g.1) (0 + Int.toNat (↑s.1
  : Int) * 1))))) true (Ob.cells true)))) /\ True)) /\ IsQ (Row.mk (bCells s.3.1.1) false (Ob.cells true)) s.3.1.2 (List.length s.3.1.1 - s.3.1.2) (bz s.3.2) (scB s.3.1.3)
  s.3.3 (Row.mk (List.take (cellN (gC enB g.1) (0 + Int.toNat (↑s.1 : Int) * 1) * 1) (List.drop (cellO (gC enB g.1) (0 + Int.toNat (↑s.1 : Int) * 1)) (gCells (cellZ (gC enB
  g.1) (0 + Int.toNat (↑s.1 : Int) * 1))))) true (Ob.cells true)) (cellN (gC enB g.1) (0 + Int.toNat (↑s.1 : Int) * 1)))))) /\ (((((0 + pM (Row.mk (bCells s.2.1.1) false
  (Ob.cells true)) s.2.1.2 g.2 (bz s.2.2) (scB s.2.1.3) s.2.3 (Row.mk (List.take ((Int.toNat (Int.ofNat (cellN (gC enB g.1) (0 + Int.toNat (↑s.1 : Int) * 1))) - 0) * 1)
  (List.drop 0 (bCells (padL (Row.mk (List.take (cellN (gC enB g.1) (0 + Int.toNat (↑s.1 : Int) * 1) * 1) (List.drop (cellO (gC enB g.1) (0 + Int.toNat (↑s.1 : Int) * 1))
  (gCells (cellZ (gC enB g.1) (0 + Int.toNat (↑s.1 : Int) * 1))))) true (Ob.cells true)) (5 : Int))))) true (Ob.cells true)) * 4 <= List.length (gC enG (pL (Row.mk (bCells
  s.2.1.1) false (Ob.cells true)) s.2.1.2 g.2 (bz s.2.2) (scB s.2.1.3) s.2.3 (Row.mk (List.take ((Int.toNat (Int.ofNat (cellN (gC enB g.1) (0 + Int.toNat (↑s.1 : Int) * 1)))
  - 0) * 1) (List.drop 0 (bCells (padL (Row.mk (List.take (cellN (gC enB g.1) (0 + Int.toNat (↑s.1 : Int) * 1) * 1) (List.drop (cellO (gC enB g.1) (0 + Int.toNat (↑s.1 :
  Int) * 1)) (gCells (cellZ (gC enB g.1) (0 + Int.toNat (↑s.1 : Int) * 1))))) true (Ob.cells true)) (5 : Int))))) true (Ob.cells true)))) /\ Plain (List.take (pM (Row.mk
  (bCells s.2.1.1) false (Ob.cells true)) s.2.1.2 g.2 (bz s.2.2) (scB s.2.1.3) s.2.3 (Row.mk (List.take ((Int.toNat (Int.ofNat (cellN (gC enB g.1) (0 + Int.toNat (↑s.1 :
  Int) * 1))) - 0) * 1) (List.drop 0 (bCells (padL (Row.mk (List.take (cellN (gC enB g.1) (0 + Int.toNat (↑s.1 : Int) * 1) * 1) (List.drop (cellO (gC enB g.1) (0 + Int.toNat
  (↑s.1 : Int) * 1)) (gCells (cellZ (gC enB g.1) (0 + Int.toNat (↑s.1 : Int) * 1))))) true (Ob.cells true)) (5 : Int))))) true (Ob.cells true)) * 4) (List.drop 0 (gC enG (pL
  (Row.mk (bCells s.2.1.1) false (Ob.cells true)) s.2.1.2 g.2 (bz s.2.2) (scB s.2.1.3) s.2.3 (Row.mk (List.take ((Int.toNat (Int.ofNat (cellN (gC enB g.1) (0 + Int.toNat
  (↑s.1 : Int) * 1))) - 0) * 1) (List.drop 0 (bCells (padL (Row.mk (List.take (cellN (gC enB g.1) (0 + Int.toNat (↑s.1 : Int) * 1) * 1) (List.drop (cellO (gC enB g.1) (0 +
  Int.toNat (↑s.1 : Int) * 1)) (gCells (cellZ (gC enB g.1) (0 + Int.toNat (↑s.1 : Int) * 1))))) true (Ob.cells true)) (5 : Int))))) true (Ob.cells true))))))) /\ ((0 + uM
  (Row.mk (bCells s.3.1.1) false (Ob.cells true)) s.3.1.2 g.2 (bz s.3.2) (scB s.3.1.3) s.3.3 (Row.mk (List.take (cellN (gC enB g.1) (0 + Int.toNat (↑s.1 : Int) * 1) * 1)
  (List.drop (cellO (gC enB g.1) (0 + Int.toNat (↑s.1 : Int) * 1)) (gCells (cellZ (gC enB g.1) (0 + Int.toNat (↑s.1 : Int) * 1))))) true (Ob.cells true)) * 4 <= List.length
  (gC enG (uL (Row.mk (bCells s.3.1.1) false (Ob.cells true)) s.3.1.2 g.2 (bz s.3.2) (scB s.3.1.3) s.3.3 (Row.mk (List.take (cellN (gC enB g.1) (0 + Int.toNat (↑s.1 : Int) *
  1) * 1) (List.drop (cellO (gC enB g.1) (0 + Int.toNat (↑s.1 : Int) * 1)) (gCells (cellZ (gC enB g.1) (0 + Int.toNat (↑s.1 : Int) * 1))))) true (Ob.cells true)))) /\ Plain
  (List.take (uM (Row.mk (bCells s.3.1.1) false (Ob.cells true)) s.3.1.2 g.2 (bz s.3.2) (scB s.3.1.3) s.3.3 (Row.mk (List.take (cellN (gC enB g.1) (0 + Int.toNat (↑s.1 :
  Int) * 1) * 1) (List.drop (cellO (gC enB g.1) (0 + Int.toNat (↑s.1 : Int) * 1)) (gCells (cellZ (gC enB g.1) (0 + Int.toNat (↑s.1 : Int) * 1))))) true (Ob.cells true)) * 4)
  (List.drop 0 (gC enG (uL (Row.mk (bCells s.3.1.1) false (Ob.cells true)) s.3.1.2 g.2 (bz s.3.2) (scB s.3.1.3) s.3.3 (Row.mk (List.take (cellN (gC enB g.1) (0 + Int.toNat
  (↑s.1 : Int) * 1) * 1) (List.drop (cellO (gC enB g.1) (0 + Int.toNat (↑s.1 : Int) * 1)) (gCells (cellZ (gC enB g.1) (0 + Int.toNat (↑s.1 : Int) * 1))))) true (Ob.cells
  true))))))) /\ True)) /\ ((True /\ (True /\ True)) /\ (True /\ (IsF (Row.mk (List.take (pM (Row.mk (bCells s.2.1.1) false (Ob.cells true)) s.2.1.2 g.2 (bz s.2.2) (scB
  s.2.1.3) s.2.3 (Row.mk (List.take ((Int.toNat (Int.ofNat (cellN (gC enB g.1) (0 + Int.toNat (↑s.1 : Int) * 1))) - 0) * 1) (List.drop 0 (bCells (padL (Row.mk (List.take
  (cellN (gC enB g.1) (0 + Int.toNat (↑s.1 : Int) * 1) * 1) (List.drop (cellO (gC enB g.1) (0 + Int.toNat (↑s.1 : Int) * 1)) (gCells (cellZ (gC enB g.1) (0 + Int.toNat (↑s.1
  : Int) * 1))))) true (Ob.cells true)) (5 : Int))))) true (Ob.cells true)) * 4) (List.drop 0 (gC enG (pL (Row.mk (bCells s.2.1.1) false (Ob.cells true)) s.2.1.2 g.2 (bz
  s.2.2) (scB s.2.1.3) s.2.3 (Row.mk (List.take ((Int.toNat (Int.ofNat (cellN (gC enB g.1) (0 + Int.toNat (↑s.1 : Int) * 1))) - 0) * 1) (List.drop 0 (bCells (padL (Row.mk
  (List.take (cellN (gC enB g.1) (0 + Int.toNat (↑s.1 : Int) * 1) * 1) (List.drop (cellO (gC enB g.1) (0 + Int.toNat (↑s.1 : Int) * 1)) (gCells (cellZ (gC enB g.1) (0 +
  Int.toNat (↑s.1 : Int) * 1))))) true (Ob.cells true)) (5 : Int))))) true (Ob.cells true)))))) true (Ob.cells true)) (pM (Row.mk (bCells s.2.1.1) false (Ob.cells true))
  s.2.1.2 g.2 (bz s.2.2) (scB s.2.1.3) s.2.3 (Row.mk (List.take ((Int.toNat (Int.ofNat (cellN (gC enB g.1) (0 + Int.toNat (↑s.1 : Int) * 1))) - 0) * 1) (List.drop 0 (bCells
  (padL (Row.mk (List.take (cellN (gC enB g.1) (0 + Int.toNat (↑s.1 : Int) * 1) * 1) (List.drop (cellO (gC enB g.1) (0 + Int.toNat (↑s.1 : Int) * 1)) (gCells (cellZ (gC enB
  g.1) (0 + Int.toNat (↑s.1 : Int) * 1))))) true (Ob.cells true)) (5 : Int))))) true (Ob.cells true))) /\ (IsF (Row.mk (List.take (uM (Row.mk (bCells s.3.1.1) false
  (Ob.cells true)) s.3.1.2 g.2 (bz s.3.2) (scB s.3.1.3) s.3.3 (Row.mk (List.take (cellN (gC enB g.1) (0 + Int.toNat (↑s.1 : Int) * 1) * 1) (List.drop (cellO (gC enB g.1) (0
  + Int.toNat (↑s.1 : Int) * 1)) (gCells (cellZ (gC enB g.1) (0 + Int.toNat (↑s.1 : Int) * 1))))) true (Ob.cells true)) * 4) (List.drop 0 (gC enG (uL (Row.mk (bCells
  s.3.1.1) false (Ob.cells true)) s.3.1.2 g.2 (bz s.3.2) (scB s.3.1.3) s.3.3 (Row.mk (List.take (cellN (gC enB g.1) (0 + Int.toNat (↑s.1 : Int) * 1) * 1) (List.drop (cellO
  (gC enB g.1) (0 + Int.toNat (↑s.1 : Int) * 1)) (gCells (cellZ (gC enB g.1) (0 + Int.toNat (↑s.1 : Int) * 1))))) true (Ob.cells true)))))) true (Ob.cells true)) (uM (Row.mk
  (bCells s.3.1.1) false (Ob.cells true)) s.3.1.2 g.2 (bz s.3.2) (scB s.3.1.3) s.3.3 (Row.mk (List.take (cellN (gC enB g.1) (0 + Int.toNat (↑s.1 : Int) * 1) * 1) (List.drop
  (cellO (gC enB g.1) (0 + Int.toNat (↑s.1 : Int) * 1)) (gCells (cellZ (gC enB g.1) (0 + Int.toNat (↑s.1 : Int) * 1))))) true (Ob.cells true))) /\ pM (Row.mk (bCells
  s.2.1.1) false (Ob.cells true)) s.2.1.2 g.2 (bz s.2.2) (scB s.2.1.3) s.2.3 (Row.mk (List.take ((Int.toNat (Int.ofNat (cellN (gC enB g.1) (0 + Int.toNat (↑s.1 : Int) * 1)))
  - 0) * 1) (List.drop 0 (bCells (padL (Row.mk (List.take (cellN (gC enB g.1) (0 + Int.toNat (↑s.1 : Int) * 1) * 1) (List.drop (cellO (gC enB g.1) (0 + Int.toNat (↑s.1 :
  Int) * 1)) (gCells (cellZ (gC enB g.1) (0 + Int.toNat (↑s.1 : Int) * 1))))) true (Ob.cells true)) (5 : Int))))) true (Ob.cells true)) <= 9223372036854775807)))))) /\ (br
  (!zF (Row.mk (List.take (pM (Row.mk (bCells s.2.1.1) false (Ob.cells true)) s.2.1.2 g.2 (bz s.2.2) (scB s.2.1.3) s.2.3 (Row.mk (List.take ((Int.toNat (Int.ofNat (cellN (gC
  enB g.1) (0 + Int.toNat (↑s.1 : Int) * 1))) - 0) * 1) (List.drop 0 (bCells (padL (Row.mk (List.take (cellN (gC enB g.1) (0 + Int.toNat (↑s.1 : Int) * 1) * 1) (List.drop
  (cellO (gC enB g.1) (0 + Int.toNat (↑s.1 : Int) * 1)) (gCells (cellZ (gC enB g.1) (0 + Int.toNat (↑s.1 : Int) * 1))))) true (Ob.cells true)) (5 : Int))))) true (Ob.cells
  true)) * 4) (List.drop 0 (gC enG (pL (Row.mk (bCells s.2.1.1) false (Ob.cells true)) s.2.1.2 g.2 (bz s.2.2) (scB s.2.1.3) s.2.3 (Row.mk (List.take ((Int.toNat (Int.ofNat
  (cellN (gC enB g.1) (0 + Int.toNat (↑s.1 : Int) * 1))) - 0) * 1) (List.drop 0 (bCells (padL (Row.mk (List.take (cellN (gC enB g.1) (0 + Int.toNat (↑s.1 : Int) * 1) * 1)
  (List.drop (cellO (gC enB g.1) (0 + Int.toNat (↑s.1 : Int) * 1)) (gCells (cellZ (gC enB g.1) (0 + Int.toNat (↑s.1 : Int) * 1))))) true (Ob.cells true)) (5 : Int))))) true
  (Ob.cells true)))))) true (Ob.cells true)) (Row.mk (List.take (uM (Row.mk (bCells s.3.1.1) false (Ob.cells true)) s.3.1.2 g.2 (bz s.3.2) (scB s.3.1.3) s.3.3 (Row.mk
  (List.take (cellN (gC enB g.1) (0 + Int.toNat (↑s.1 : Int) * 1) * 1) (List.drop (cellO (gC enB g.1) (0 + Int.toNat (↑s.1 : Int) * 1)) (gCells (cellZ (gC enB g.1) (0 +
  Int.toNat (↑s.1 : Int) * 1))))) true (Ob.cells true)) * 4) (List.drop 0 (gC enG (uL (Row.mk (bCells s.3.1.1) false (Ob.cells true)) s.3.1.2 g.2 (bz s.3.2) (scB s.3.1.3)
  s.3.3 (Row.mk (List.take (cellN (gC enB g.1) (0 + Int.toNat (↑s.1 : Int) * 1) * 1) (List.drop (cellO (gC enB g.1) (0 + Int.toNat (↑s.1 : Int) * 1)) (gCells (cellZ (gC enB
  g.1) (0 + Int.toNat (↑s.1 : Int) * 1))))) true (Ob.cells true)))))) true (Ob.cells true))) (∃ y : Unit, ((False) /\ ((false = false) /\ ((Eq (α := List Value) (gC enB o)
  (gC enB o)) /\ ((Plain (gC enB o)) /\ True))))) (br (!(pB (Row.mk (bCells s.2.1.1) false (Ob.cells true)) s.2.1.2 g.2 (bz s.2.2) (scB s.2.1.3) s.2.3 (Row.mk (List.take
  ((Int.toNat (Int.ofNat (cellN (gC enB g.1) (0 + Int.toNat (↑s.1 : Int) * 1))) - 0) * 1) (List.drop 0 (bCells (padL (Row.mk (List.take (cellN (gC enB g.1) (0 + Int.toNat
  (↑s.1 : Int) * 1) * 1) (List.drop (cellO (gC enB g.1) (0 + Int.toNat (↑s.1 : Int) * 1)) (gCells (cellZ (gC enB g.1) (0 + Int.toNat (↑s.1 : Int) * 1))))) true (Ob.cells
  true)) (5 : Int))))) true (Ob.cells true)) == uB (Row.mk (bCells s.3.1.1) false (Ob.cells true)) s.3.1.2 g.2 (bz s.3.2) (scB s.3.1.3) s.3.3 (Row.mk (List.take (cellN (gC
  enB g.1) (0 + Int.toNat (↑s.1 : Int) * 1) * 1) (List.drop (cellO (gC enB g.1) (0 + Int.toNat (↑s.1 : Int) * 1)) (gCells (cellZ (gC enB g.1) (0 + Int.toNat (↑s.1 : Int) *
  1))))) true (Ob.cells true)) && (pC (Row.mk (bCells s.2.1.1) false (Ob.cells true)) s.2.1.2 g.2 (bz s.2.2) (scB s.2.1.3) s.2.3 (Row.mk (List.take ((Int.toNat (Int.ofNat
  (cellN (gC enB g.1) (0 + Int.toNat (↑s.1 : Int) * 1))) - 0) * 1) (List.drop 0 (bCells (padL (Row.mk (List.take (cellN (gC enB g.1) (0 + Int.toNat (↑s.1 : Int) * 1) * 1)
  (List.drop (cellO (gC enB g.1) (0 + Int.toNat (↑s.1 : Int) * 1)) (gCells (cellZ (gC enB g.1) (0 + Int.toNat (↑s.1 : Int) * 1))))) true (Ob.cells true)) (5 : Int))))) true
  (Ob.cells true)) == uC (Row.mk (bCells s.3.1.1) false (Ob.cells true)) s.3.1.2 g.2 (bz s.3.2) (scB s.3.1.3) s.3.3 (Row.mk (List.take (cellN (gC enB g.1) (0 + Int.toNat
  (↑s.1 : Int) * 1) * 1) (List.drop (cellO (gC enB g.1) (0 + Int.toNat (↑s.1 : Int) * 1)) (gCells (cellZ (gC enB g.1) (0 + Int.toNat (↑s.1 : Int) * 1))))) true (Ob.cells
  true)) && true))) ((Value.agg (Array.mk [Value.int IntKind.i64 (pB (Row.mk (bCells s.2.1.1) false (Ob.cells true)) s.2.1.2 g.2 (bz s.2.2) (scB s.2.1.3) s.2.3 (Row.mk
  (List.take ((Int.toNat (Int.ofNat (cellN (gC enB g.1) (0 + Int.toNat (↑s.1 : Int) * 1))) - 0) * 1) (List.drop 0 (bCells (padL (Row.mk (List.take (cellN (gC enB g.1) (0 +
  Int.toNat (↑s.1 : Int) * 1) * 1) (List.drop (cellO (gC enB g.1) (0 + Int.toNat (↑s.1 : Int) * 1)) (gCells (cellZ (gC enB g.1) (0 + Int.toNat (↑s.1 : Int) * 1))))) true
  (Ob.cells true)) (5 : Int))))) true (Ob.cells true))), Value.int IntKind.i64 (pC (Row.mk (bCells s.2.1.1) false (Ob.cells true)) s.2.1.2 g.2 (bz s.2.2) (scB s.2.1.3) s.2.3
  (Row.mk (List.take ((Int.toNat (Int.ofNat (cellN (gC enB g.1) (0 + Int.toNat (↑s.1 : Int) * 1))) - 0) * 1) (List.drop 0 (bCells (padL (Row.mk (List.take (cellN (gC enB
  g.1) (0 + Int.toNat (↑s.1 : Int) * 1) * 1) (List.drop (cellO (gC enB g.1) (0 + Int.toNat (↑s.1 : Int) * 1)) (gCells (cellZ (gC enB g.1) (0 + Int.toNat (↑s.1 : Int) *
  1))))) true (Ob.cells true)) (5 : Int))))) true (Ob.cells true))), Value.int IntKind.i64 (0 : Int)]) = Value.agg (Array.mk [Value.int IntKind.i64 (pB (Row.mk (bCells
  s.2.1.1) false (Ob.cells true)) s.2.1.2 g.2 (bz s.2.2) (scB s.2.1.3) s.2.3 (Row.mk (List.take ((Int.toNat (Int.ofNat (cellN (gC enB g.1) (0 + Int.toNat (↑s.1 : Int) * 1)))
  - 0) * 1) (List.drop 0 (bCells (padL (Row.mk (List.take (cellN (gC enB g.1) (0 + Int.toNat (↑s.1 : Int) * 1) * 1) (List.drop (cellO (gC enB g.1) (0 + Int.toNat (↑s.1 :
  Int) * 1)) (gCells (cellZ (gC enB g.1) (0 + Int.toNat (↑s.1 : Int) * 1))))) true (Ob.cells true)) (5 : Int))))) true (Ob.cells true))), Value.int IntKind.i64 (pC (Row.mk
  (bCells s.2.1.1) false (Ob.cells true)) s.2.1.2 g.2 (bz s.2.2) (scB s.2.1.3) s.2.3 (Row.mk (List.take ((Int.toNat (Int.ofNat (cellN (gC enB g.1) (0 + Int.toNat (↑s.1 :
  Int) * 1))) - 0) * 1) (List.drop 0 (bCells (padL (Row.mk (List.take (cellN (gC enB g.1) (0 + Int.toNat (↑s.1 : Int) * 1) * 1) (List.drop (cellO (gC enB g.1) (0 + Int.toNat
  (↑s.1 : Int) * 1)) (gCells (cellZ (gC enB g.1) (0 + Int.toNat (↑s.1 : Int) * 1))))) true (Ob.cells true)) (5 : Int))))) true (Ob.cells true))), Value.int IntKind.i64 (0 :
  Int)])) /\ ((Value.agg (Array.mk [Value.int IntKind.i64 (uB (Row.mk (bCells s.3.1.1) false (Ob.cells true)) s.3.1.2 g.2 (bz s.3.2) (scB s.3.1.3) s.3.3 (Row.mk (List.take
  (cellN (gC enB g.1) (0 + Int.toNat (↑s.1 : Int) * 1) * 1) (List.drop (cellO (gC enB g.1) (0 + Int.toNat (↑s.1 : Int) * 1)) (gCells (cellZ (gC enB g.1) (0 + Int.toNat (↑s.1
  : Int) * 1))))) true (Ob.cells true))), Value.int IntKind.i64 (uC (Row.mk (bCells s.3.1.1) false (Ob.cells true)) s.3.1.2 g.2 (bz s.3.2) (scB s.3.1.3) s.3.3 (Row.mk
  (List.take (cellN (gC enB g.1) (0 + Int.toNat (↑s.1 : Int) * 1) * 1) (List.drop (cellO (gC enB g.1) (0 + Int.toNat (↑s.1 : Int) * 1)) (gCells (cellZ (gC enB g.1) (0 +
  Int.toNat (↑s.1 : Int) * 1))))) true (Ob.cells true))), Value.int IntKind.i64 (0 : Int)]) = Value.agg (Array.mk [Value.int IntKind.i64 (uB (Row.mk (bCells s.3.1.1) false
  (Ob.cells true)) s.3.1.2 g.2 (bz s.3.2) (scB s.3.1.3) s.3.3 (Row.mk (List.take (cellN (gC enB g.1) (0 + Int.toNat (↑s.1 : Int) * 1) * 1) (List.drop (cellO (gC enB g.1) (0
  + Int.toNat (↑s.1 : Int) * 1)) (gCells (cellZ (gC enB g.1) (0 + Int.toNat (↑s.1 : Int) * 1))))) true (Ob.cells true))), Value.int IntKind.i64 (uC (Row.mk (bCells s.3.1.1)
  false (Ob.cells true)) s.3.1.2 g.2 (bz s.3.2) (scB s.3.1.3) s.3.3 (Row.mk (List.take (cellN (gC enB g.1) (0 + Int.toNat (↑s.1 : Int) * 1) * 1) (List.drop (cellO (gC enB
  g.1) (0 + Int.toNat (↑s.1 : Int) * 1)) (gCells (cellZ (gC enB g.1) (0 + Int.toNat (↑s.1 : Int) * 1))))) true (Ob.cells true))), Value.int IntKind.i64 (0 : Int)])) /\ (∃ y
  : Unit, ((False) /\ ((false = false) /\ ((Eq (α := List Value) (gC enB o) (gC enB o)) /\ ((Plain (gC enB o)) /\ True))))))) (br (Int.ofNat (pN (Row.mk (bCells s.2.1.1)
  false (Ob.cells true)) s.2.1.2 g.2 (bz s.2.2) (scB s.2.1.3) s.2.3 (Row.mk (List.take ((Int.toNat (Int.ofNat (cellN (gC enB g.1) (0 + Int.toNat (↑s.1 : Int) * 1))) - 0) *
  1) (List.drop 0 (bCells (padL (Row.mk (List.take (cellN (gC enB g.1) (0 + Int.toNat (↑s.1 : Int) * 1) * 1) (List.drop (cellO (gC enB g.1) (0 + Int.toNat (↑s.1 : Int) * 1))
  (gCells (cellZ (gC enB g.1) (0 + Int.toNat (↑s.1 : Int) * 1))))) true (Ob.cells true)) (5 : Int))))) true (Ob.cells true))) != Int.ofNat (uN (Row.mk (bCells s.3.1.1) false
  (Ob.cells true)) s.3.1.2 g.2 (bz s.3.2) (scB s.3.1.3) s.3.3 (Row.mk (List.take (cellN (gC enB g.1) (0 + Int.toNat (↑s.1 : Int) * 1) * 1) (List.drop (cellO (gC enB g.1) (0
  + Int.toNat (↑s.1 : Int) * 1)) (gCells (cellZ (gC enB g.1) (0 + Int.toNat (↑s.1 : Int) * 1))))) true (Ob.cells true)))) ((Value.agg (Array.mk [Value.int IntKind.i64 (pB
  (Row.mk (bCells s.2.1.1) false (Ob.cells true)) s.2.1.2 g.2 (bz s.2.2) (scB s.2.1.3) s.2.3 (Row.mk (List.take ((Int.toNat (Int.ofNat (cellN (gC enB g.1) (0 + Int.toNat
  (↑s.1 : Int) * 1))) - 0) * 1) (List.drop 0 (bCells (padL (Row.mk (List.take (cellN (gC enB g.1) (0 + Int.toNat (↑s.1 : Int) * 1) * 1) (List.drop (cellO (gC enB g.1) (0 +
  Int.toNat (↑s.1 : Int) * 1)) (gCells (cellZ (gC enB g.1) (0 + Int.toNat (↑s.1 : Int) * 1))))) true (Ob.cells true)) (5 : Int))))) true (Ob.cells true))), Value.int
  IntKind.i64 (pC (Row.mk (bCells s.2.1.1) false (Ob.cells true)) s.2.1.2 g.2 (bz s.2.2) (scB s.2.1.3) s.2.3 (Row.mk (List.take ((Int.toNat (Int.ofNat (cellN (gC enB g.1) (0
  + Int.toNat (↑s.1 : Int) * 1))) - 0) * 1) (List.drop 0 (bCells (padL (Row.mk (List.take (cellN (gC enB g.1) (0 + Int.toNat (↑s.1 : Int) * 1) * 1) (List.drop (cellO (gC enB
  g.1) (0 + Int.toNat (↑s.1 : Int) * 1)) (gCells (cellZ (gC enB g.1) (0 + Int.toNat (↑s.1 : Int) * 1))))) true (Ob.cells true)) (5 : Int))))) true (Ob.cells true))),
  Value.int IntKind.i64 (0 : Int)]) = Value.agg (Array.mk [Value.int IntKind.i64 (pB (Row.mk (bCells s.2.1.1) false (Ob.cells true)) s.2.1.2 g.2 (bz s.2.2) (scB s.2.1.3)
  s.2.3 (Row.mk (List.take ((Int.toNat (Int.ofNat (cellN (gC enB g.1) (0 + Int.toNat (↑s.1 : Int) * 1))) - 0) * 1) (List.drop 0 (bCells (padL (Row.mk (List.take (cellN (gC
  enB g.1) (0 + Int.toNat (↑s.1 : Int) * 1) * 1) (List.drop (cellO (gC enB g.1) (0 + Int.toNat (↑s.1 : Int) * 1)) (gCells (cellZ (gC enB g.1) (0 + Int.toNat (↑s.1 : Int) *
  1))))) true (Ob.cells true)) (5 : Int))))) true (Ob.cells true))), Value.int IntKind.i64 (pC (Row.mk (bCells s.2.1.1) false (Ob.cells true)) s.2.1.2 g.2 (bz s.2.2) (scB
  s.2.1.3) s.2.3 (Row.mk (List.take ((Int.toNat (Int.ofNat (cellN (gC enB g.1) (0 + Int.toNat (↑s.1 : Int) * 1))) - 0) * 1) (List.drop 0 (bCells (padL (Row.mk (List.take
  (cellN (gC enB g.1) (0 + Int.toNat (↑s.1 : Int) * 1) * 1) (List.drop (cellO (gC enB g.1) (0 + Int.toNat (↑s.1 : Int) * 1)) (gCells (cellZ (gC enB g.1) (0 + Int.toNat (↑s.1
  : Int) * 1))))) true (Ob.cells true)) (5 : Int))))) true (Ob.cells true))), Value.int IntKind.i64 (0 : Int)])) /\ ((Value.agg (Array.mk [Value.int IntKind.i64 (uB (Row.mk
  (bCells s.3.1.1) false (Ob.cells true)) s.3.1.2 g.2 (bz s.3.2) (scB s.3.1.3) s.3.3 (Row.mk (List.take (cellN (gC enB g.1) (0 + Int.toNat (↑s.1 : Int) * 1) * 1) (List.drop
  (cellO (gC enB g.1) (0 + Int.toNat (↑s.1 : Int) * 1)) (gCells (cellZ (gC enB g.1) (0 + Int.toNat (↑s.1 : Int) * 1))))) true (Ob.cells true))), Value.int IntKind.i64 (uC
  (Row.mk (bCells s.3.1.1) false (Ob.cells true)) s.3.1.2 g.2 (bz s.3.2) (scB s.3.1.3) s.3.3 (Row.mk (List.take (cellN (gC enB g.1) (0 + Int.toNat (↑s.1 : Int) * 1) * 1)
  (List.drop (cellO (gC enB g.1) (0 + Int.toNat (↑s.1 : Int) * 1)) (gCells (cellZ (gC enB g.1) (0 + Int.toNat (↑s.1 : Int) * 1))))) true (Ob.cells true))), Value.int
  IntKind.i64 (0 : Int)]) = Value.agg (Array.mk [Value.int IntKind.i64 (uB (Row.mk (bCells s.3.1.1) false (Ob.cells true)) s.3.1.2 g.2 (bz s.3.2) (scB s.3.1.3) s.3.3 (Row.mk
  (List.take (cellN (gC enB g.1) (0 + Int.toNat (↑s.1 : Int) * 1) * 1) (List.drop (cellO (gC enB g.1) (0 + Int.toNat (↑s.1 : Int) * 1)) (gCells (cellZ (gC enB g.1) (0 +
  Int.toNat (↑s.1 : Int) * 1))))) true (Ob.cells true))), Value.int IntKind.i64 (uC (Row.mk (bCells s.3.1.1) false (Ob.cells true)) s.3.1.2 g.2 (bz s.3.2) (scB s.3.1.3)
  s.3.3 (Row.mk (List.take (cellN (gC enB g.1) (0 + Int.toNat (↑s.1 : Int) * 1) * 1) (List.drop (cellO (gC enB g.1) (0 + Int.toNat (↑s.1 : Int) * 1)) (gCells (cellZ (gC enB
  g.1) (0 + Int.toNat (↑s.1 : Int) * 1))))) true (Ob.cells true))), Value.int IntKind.i64 (0 : Int)])) /\ ((Value.slice (some (Addr.mk 14 (0 + uK (Row.mk (bCells s.3.1.1)
  false (Ob.cells true)) s.3.1.2 g.2 (bz s.3.2) (scB s.3.1.3) s.3.3 (Row.mk (List.take (cellN (gC enB g.1) (0 + Int.toNat (↑s.1 : Int) * 1) * 1) (List.drop (cellO (gC enB
  g.1) (0 + Int.toNat (↑s.1 : Int) * 1)) (gCells (cellZ (gC enB g.1) (0 + Int.toNat (↑s.1 : Int) * 1))))) true (Ob.cells true))) none)) (uN (Row.mk (bCells s.3.1.1) false
  (Ob.cells true)) s.3.1.2 g.2 (bz s.3.2) (scB s.3.1.3) s.3.3 (Row.mk (List.take (cellN (gC enB g.1) (0 + Int.toNat (↑s.1 : Int) * 1) * 1) (List.drop (cellO (gC enB g.1) (0
  + Int.toNat (↑s.1 : Int) * 1)) (gCells (cellZ (gC enB g.1) (0 + Int.toNat (↑s.1 : Int) * 1))))) true (Ob.cells true))) 1 = Value.slice (some (Addr.mk 14 (0 + uK (Row.mk
  (bCells s.3.1.1) false (Ob.cells true)) s.3.1.2 g.2 (bz s.3.2) (scB s.3.1.3) s.3.3 (Row.mk (List.take (cellN (gC enB g.1) (0 + Int.toNat (↑s.1 : Int) * 1) * 1) (List.drop
  (cellO (gC enB g.1) (0 + Int.toNat (↑s.1 : Int) * 1)) (gCells (cellZ (gC enB g.1) (0 + Int.toNat (↑s.1 : Int) * 1))))) true (Ob.cells true))) none)) (uN (Row.mk (bCells
  s.3.1.1) false (Ob.cells true)) s.3.1.2 g.2 (bz s.3.2) (scB s.3.1.3) s.3.3 (Row.mk (List.take (cellN (gC enB g.1) (0 + Int.toNat (↑s.1 : Int) * 1) * 1) (List.drop (cellO
  (gC enB g.1) (0 + Int.toNat (↑s.1 : Int) * 1)) (gCells (cellZ (gC enB g.1) (0 + Int.toNat (↑s.1 : Int) * 1))))) true (Ob.cells true))) 1) /\ ((Value.slice (some (Addr.mk
  14 (0 + uK (Row.mk (bCells s.3.1.1) false (Ob.cells true)) s.3.1.2 g.2 (bz s.3.2) (scB s.3.1.3) s.3.3 (Row.mk (List.take (cellN (gC enB g.1) (0 + Int.toNat (↑s.1 : Int) *
  1) * 1) (List.drop (cellO (gC enB g.1) (0 + Int.toNat (↑s.1 : Int) * 1)) (gCells (cellZ (gC enB g.1) (0 + Int.toNat (↑s.1 : Int) * 1))))) true (Ob.cells true))) none)) (uN
  (Row.mk (bCells s.3.1.1) false (Ob.cells true)) s.3.1.2 g.2 (bz s.3.2) (scB s.3.1.3) s.3.3 (Row.mk (List.take (cellN (gC enB g.1) (0 + Int.toNat (↑s.1 : Int) * 1) * 1)
  (List.drop (cellO (gC enB g.1) (0 + Int.toNat (↑s.1 : Int) * 1)) (gCells (cellZ (gC enB g.1) (0 + Int.toNat (↑s.1 : Int) * 1))))) true (Ob.cells true))) 1 = Value.slice
  (some (Addr.mk 14 (0 + uK (Row.mk (bCells s.3.1.1) false (Ob.cells true)) s.3.1.2 g.2 (bz s.3.2) (scB s.3.1.3) s.3.3 (Row.mk (List.take (cellN (gC enB g.1) (0 + Int.toNat
  (↑s.1 : Int) * 1) * 1) (List.drop (cellO (gC enB g.1) (0 + Int.toNat (↑s.1 : Int) * 1)) (gCells (cellZ (gC enB g.1) (0 + Int.toNat (↑s.1 : Int) * 1))))) true (Ob.cells
  true))) none)) (uN (Row.mk (bCells s.3.1.1) false (Ob.cells true)) s.3.1.2 g.2 (bz s.3.2) (scB s.3.1.3) s.3.3 (Row.mk (List.take (cellN (gC enB g.1) (0 + Int.toNat (↑s.1 :
  Int) * 1) * 1) (List.drop (cellO (gC enB g.1) (0 + Int.toNat (↑s.1 : Int) * 1)) (gCells (cellZ (gC enB g.1) (0 + Int.toNat (↑s.1 : Int) * 1))))) true (Ob.cells true))) 1)
  /\ (∃ y : Unit, ((False) /\ ((false = false) /\ ((Eq (α := List Value) (gC enB o) (gC enB o)) /\ ((Plain (gC enB o)) /\ True))))))))) (((((0 + (cellN (gC enB g.1) (0 +
  Int.toNat (↑s.1 : Int) * 1) + 80) * 1 <= List.length (bCells (padL (Row.mk (List.take (cellN (gC enB g.1) (0 + Int.toNat (↑s.1 : Int) * 1) * 1) (List.drop (cellO (gC enB
  g.1) (0 + Int.toNat (↑s.1 : Int) * 1)) (gCells (cellZ (gC enB g.1) (0 + Int.toNat (↑s.1 : Int) * 1))))) true (Ob.cells true)) (5 : Int))) /\ Plain (List.take ((cellN (gC
  enB g.1) (0 + Int.toNat (↑s.1 : Int) * 1) + 80) * 1) (List.drop 0 (bCells (padL (Row.mk (List.take (cellN (gC enB g.1) (0 + Int.toNat (↑s.1 : Int) * 1) * 1) (List.drop
  (cellO (gC enB g.1) (0 + Int.toNat (↑s.1 : Int) * 1)) (gCells (cellZ (gC enB g.1) (0 + Int.toNat (↑s.1 : Int) * 1))))) true (Ob.cells true)) (5 : Int)))))) /\ (cellO (gC
  enB g.1) (0 + Int.toNat (↑s.1 : Int) * 1) + cellN (gC enB g.1) (0 + Int.toNat (↑s.1 : Int) * 1) * 1 <= List.length (gCells (cellZ (gC enB g.1) (0 + Int.toNat (↑s.1 : Int)
  * 1))) /\ (True /\ True))) /\ ((True /\ (True /\ True)) /\ (True /\ (IsB (Row.mk (List.take ((cellN (gC enB g.1) (0 + Int.toNat (↑s.1 : Int) * 1) + 80) * 1) (List.drop 0
  (bCells (padL (Row.mk (List.take (cellN (gC enB g.1) (0 + Int.toNat (↑s.1 : Int) * 1) * 1) (List.drop (cellO (gC enB g.1) (0 + Int.toNat (↑s.1 : Int) * 1)) (gCells (cellZ
  (gC enB g.1) (0 + Int.toNat (↑s.1 : Int) * 1))))) true (Ob.cells true)) (5 : Int))))) true (Ob.cells true)) (cellN (gC enB g.1) (0 + Int.toNat (↑s.1 : Int) * 1) + 80) /\
  (IsB (Row.mk (List.take (cellN (gC enB g.1) (0 + Int.toNat (↑s.1 : Int) * 1) * 1) (List.drop (cellO (gC enB g.1) (0 + Int.toNat (↑s.1 : Int) * 1)) (gCells (cellZ (gC enB
  g.1) (0 + Int.toNat (↑s.1 : Int) * 1))))) true (Ob.cells true)) (cellN (gC enB g.1) (0 + Int.toNat (↑s.1 : Int) * 1)) /\ (IsU8 (5 : Int) /\ (cellN (gC enB g.1) (0 +
  Int.toNat (↑s.1 : Int) * 1) + 80 <= 9223372036854775807 /\ cellN (gC enB g.1) (0 + Int.toNat (↑s.1 : Int) * 1) <= 9223372036854775000)))))))) /\ ((Value.agg (Array.mk
  [Value.int IntKind.i64 (pB (Row.mk (bCells s.2.1.1) false (Ob.cells true)) s.2.1.2 g.2 (bz s.2.2) (scB s.2.1.3) s.2.3 (Row.mk (List.take ((Int.toNat (Int.ofNat (cellN (gC
  enB g.1) (0 + Int.toNat (↑s.1 : Int) * 1))) - 0) * 1) (List.drop 0 (bCells (padL (Row.mk (List.take (cellN (gC enB g.1) (0 + Int.toNat (↑s.1 : Int) * 1) * 1) (List.drop
  (cellO (gC enB g.1) (0 + Int.toNat (↑s.1 : Int) * 1)) (gCells (cellZ (gC enB g.1) (0 + Int.toNat (↑s.1 : Int) * 1))))) true (Ob.cells true)) (5 : Int))))) true (Ob.cells
  true))), Value.int IntKind.i64 (pC (Row.mk (bCells s.2.1.1) false (Ob.cells true)) s.2.1.2 g.2 (bz s.2.2) (scB s.2.1.3) s.2.3 (Row.mk (List.take ((Int.toNat (Int.ofNat
  (cellN (gC enB g.1) (0 + Int.toNat (↑s.1 : Int) * 1))) - 0) * 1) (List.drop 0 (bCells (padL (Row.mk (List.take (cellN (gC enB g.1) (0 + Int.toNat (↑s.1 : Int) * 1) * 1)
  (List.drop (cellO (gC enB g.1) (0 + Int.toNat (↑s.1 : Int) * 1)) (gCells (cellZ (gC enB g.1) (0 + Int.toNat (↑s.1 : Int) * 1))))) true (Ob.cells true)) (5 : Int))))) true
  (Ob.cells true))), Value.int IntKind.i64 (0 : Int)]) = Value.agg (Array.mk [Value.int IntKind.i64 (pB (Row.mk (bCells s.2.1.1) false (Ob.cells true)) s.2.1.2 g.2 (bz
  s.2.2) (scB s.2.1.3) s.2.3 (Row.mk (List.take ((Int.toNat (Int.ofNat (cellN (gC enB g.1) (0 + Int.toNat (↑s.1 : Int) * 1))) - 0) * 1) (List.drop 0 (bCells (padL (Row.mk
  (List.take (cellN (gC enB g.1) (0 + Int.toNat (↑s.1 : Int) * 1) * 1) (List.drop (cellO (gC enB g.1) (0 + Int.toNat (↑s.1 : Int) * 1)) (gCells (cellZ (gC enB g.1) (0 +
  Int.toNat (↑s.1 : Int) * 1))))) true (Ob.cells true)) (5 : Int))))) true (Ob.cells true))), Value.int IntKind.i64 (pC (Row.mk (bCells s.2.1.1) false (Ob.cells true))
  s.2.1.2 g.2 (bz s.2.2) (scB s.2.1.3) s.2.3 (Row.mk (List.take ((Int.toNat (Int.ofNat (cellN (gC enB g.1) (0 + Int.toNat (↑s.1 : Int) * 1))) - 0) * 1) (List.drop 0 (bCells
  (padL (Row.mk (List.take (cellN (gC enB g.1) (0 + Int.toNat (↑s.1 : Int) * 1) * 1) (List.drop (cellO (gC enB g.1) (0 + Int.toNat (↑s.1 : Int) * 1)) (gCells (cellZ (gC enB
  g.1) (0 + Int.toNat (↑s.1 : Int) * 1))))) true (Ob.cells true)) (5 : Int))))) true (Ob.cells true))), Value.int IntKind.i64 (0 : Int)])) /\ ((Value.agg (Array.mk
  [Value.int IntKind.i64 (uB (Row.mk (bCells s.3.1.1) false (Ob.cells true)) s.3.1.2 g.2 (bz s.3.2) (scB s.3.1.3) s.3.3 (Row.mk (List.take (cellN (gC enB g.1) (0 + Int.toNat
  (↑s.1 : Int) * 1) * 1) (List.drop (cellO (gC enB g.1) (0 + Int.toNat (↑s.1 : Int) * 1)) (gCells (cellZ (gC enB g.1) (0 + Int.toNat (↑s.1 : Int) * 1))))) true (Ob.cells
  true))), Value.int IntKind.i64 (uC (Row.mk (bCells s.3.1.1) false (Ob.cells true)) s.3.1.2 g.2 (bz s.3.2) (scB s.3.1.3) s.3.3 (Row.mk (List.take (cellN (gC enB g.1) (0 +
  Int.toNat (↑s.1 : Int) * 1) * 1) (List.drop (cellO (gC enB g.1) (0 + Int.toNat (↑s.1 : Int) * 1)) (gCells (cellZ (gC enB g.1) (0 + Int.toNat (↑s.1 : Int) * 1))))) true
  (Ob.cells true))), Value.int IntKind.i64 (0 : Int)]) = Value.agg (Array.mk [Value.int IntKind.i64 (uB (Row.mk (bCells s.3.1.1) false (Ob.cells true)) s.3.1.2 g.2 (bz
  s.3.2) (scB s.3.1.3) s.3.3 (Row.mk (List.take (cellN (gC enB g.1) (0 + Int.toNat (↑s.1 : Int) * 1) * 1) (List.drop (cellO (gC enB g.1) (0 + Int.toNat (↑s.1 : Int) * 1))
  (gCells (cellZ (gC enB g.1) (0 + Int.toNat (↑s.1 : Int) * 1))))) true (Ob.cells true))), Value.int IntKind.i64 (uC (Row.mk (bCells s.3.1.1) false (Ob.cells true)) s.3.1.2
  g.2 (bz s.3.2) (scB s.3.1.3) s.3.3 (Row.mk (List.take (cellN (gC enB g.1) (0 + Int.toNat (↑s.1 : Int) * 1) * 1) (List.drop (cellO (gC enB g.1) (0 + Int.toNat (↑s.1 : Int)
  * 1)) (gCells (cellZ (gC enB g.1) (0 + Int.toNat (↑s.1 : Int) * 1))))) true (Ob.cells true))), Value.int IntKind.i64 (0 : Int)])) /\ ((Value.slice (some (Addr.mk 14 (0 +
  uK (Row.mk (bCells s.3.1.1) false (Ob.cells true)) s.3.1.2 g.2 (bz s.3.2) (scB s.3.1.3) s.3.3 (Row.mk (List.take (cellN (gC enB g.1) (0 + Int.toNat (↑s.1 : Int) * 1) * 1)
  (List.drop (cellO (gC enB g.1) (0 + Int.toNat (↑s.1 : Int) * 1)) (gCells (cellZ (gC enB g.1) (0 + Int.toNat (↑s.1 : Int) * 1))))) true (Ob.cells true))) none)) (uN (Row.mk
  (bCells s.3.1.1) false (Ob.cells true)) s.3.1.2 g.2 (bz s.3.2) (scB s.3.1.3) s.3.3 (Row.mk (List.take (cellN (gC enB g.1) (0 + Int.toNat (↑s.1 : Int) * 1) * 1) (List.drop
  (cellO (gC enB g.1) (0 + Int.toNat (↑s.1 : Int) * 1)) (gCells (cellZ (gC enB g.1) (0 + Int.toNat (↑s.1 : Int) * 1))))) true (Ob.cells true))) 1 = Value.slice (some
  (Addr.mk 14 (0 + uK (Row.mk (bCells s.3.1.1) false (Ob.cells true)) s.3.1.2 g.2 (bz s.3.2) (scB s.3.1.3) s.3.3 (Row.mk (List.take (cellN (gC enB g.1) (0 + Int.toNat (↑s.1
  : Int) * 1) * 1) (List.drop (cellO (gC enB g.1) (0 + Int.toNat (↑s.1 : Int) * 1)) (gCells (cellZ (gC enB g.1) (0 + Int.toNat (↑s.1 : Int) * 1))))) true (Ob.cells true)))
  none)) (uN (Row.mk (bCells s.3.1.1) false (Ob.cells true)) s.3.1.2 g.2 (bz s.3.2) (scB s.3.1.3) s.3.3 (Row.mk (List.take (cellN (gC enB g.1) (0 + Int.toNat (↑s.1 : Int) *
  1) * 1) (List.drop (cellO (gC enB g.1) (0 + Int.toNat (↑s.1 : Int) * 1)) (gCells (cellZ (gC enB g.1) (0 + Int.toNat (↑s.1 : Int) * 1))))) true (Ob.cells true))) 1) /\
  ((Value.slice (some (Addr.mk 14 (0 + uK (Row.mk (bCells s.3.1.1) false (Ob.cells true)) s.3.1.2 g.2 (bz s.3.2) (scB s.3.1.3) s.3.3 (Row.mk (List.take (cellN (gC enB g.1)
  (0 + Int.toNat (↑s.1 : Int) * 1) * 1) (List.drop (cellO (gC enB g.1) (0 + Int.toNat (↑s.1 : Int) * 1)) (gCells (cellZ (gC enB g.1) (0 + Int.toNat (↑s.1 : Int) * 1)))))
  true (Ob.cells true))) none)) (uN (Row.mk (bCells s.3.1.1) false (Ob.cells true)) s.3.1.2 g.2 (bz s.3.2) (scB s.3.1.3) s.3.3 (Row.mk (List.take (cellN (gC enB g.1) (0 +
  Int.toNat (↑s.1 : Int) * 1) * 1) (List.drop (cellO (gC enB g.1) (0 + Int.toNat (↑s.1 : Int) * 1)) (gCells (cellZ (gC enB g.1) (0 + Int.toNat (↑s.1 : Int) * 1))))) true
  (Ob.cells true))) 1 = Value.slice (some (Addr.mk 14 (0 + uK (Row.mk (bCells s.3.1.1) false (Ob.cells true)) s.3.1.2 g.2 (bz s.3.2) (scB s.3.1.3) s.3.3 (Row.mk (List.take
  (cellN (gC enB g.1) (0 + Int.toNat (↑s.1 : Int) * 1) * 1) (List.drop (cellO (gC enB g.1) (0 + Int.toNat (↑s.1 : Int) * 1)) (gCells (cellZ (gC enB g.1) (0 + Int.toNat (↑s.1
  : Int) * 1))))) true (Ob.cells true))) none)) (uN (Row.mk (bCells s.3.1.1) false (Ob.cells true)) s.3.1.2 g.2 (bz s.3.2) (scB s.3.1.3) s.3.3 (Row.mk (List.take (cellN (gC
  enB g.1) (0 + Int.toNat (↑s.1 : Int) * 1) * 1) (List.drop (cellO (gC enB g.1) (0 + Int.toNat (↑s.1 : Int) * 1)) (gCells (cellZ (gC enB g.1) (0 + Int.toNat (↑s.1 : Int) *
  1))))) true (Ob.cells true))) 1) /\ (br (!inI (Row.mk (List.take ((cellN (gC enB g.1) (0 + Int.toNat (↑s.1 : Int) * 1) + 80) * 1) (List.drop 0 (bCells (padL (Row.mk
  (List.take (cellN (gC enB g.1) (0 + Int.toNat (↑s.1 : Int) * 1) * 1) (List.drop (cellO (gC enB g.1) (0 + Int.toNat (↑s.1 : Int) * 1)) (gCells (cellZ (gC enB g.1) (0 +
  Int.toNat (↑s.1 : Int) * 1))))) true (Ob.cells true)) (5 : Int))))) true (Ob.cells true)) (Row.mk (List.take (cellN (gC enB g.1) (0 + Int.toNat (↑s.1 : Int) * 1) * 1)
  (List.drop (cellO (gC enB g.1) (0 + Int.toNat (↑s.1 : Int) * 1)) (gCells (cellZ (gC enB g.1) (0 + Int.toNat (↑s.1 : Int) * 1))))) true (Ob.cells true)) (5 : Int)) (∃ y :
  Unit, ((False) /\ ((false = false) /\ ((Eq (α := List Value) (gC enB o) (gC enB o)) /\ ((Plain (gC enB o)) /\ True))))) (∃ j : Sr, ((Inv j) /\ ((q j < q s) /\ ((0 = 0) /\
  ((List.length g.1 = List.length g.1) /\ ((0 = 0) /\ ((0 = 0) /\ (((↑j.1 : Int) = IntKind.wrap IntKind.i64 ((↑s.1 : Int) + (1 : Int))) /\ ((Eq (α := List Value) (gC enB o)
  (gC enB o)) /\ ((Plain (gC enB o)) /\ ((j.2.1.2 = 0 + pK (Row.mk (bCells s.2.1.1) false (Ob.cells true)) s.2.1.2 g.2 (bz s.2.2) (scB s.2.1.3) s.2.3 (Row.mk (List.take
  ((Int.toNat (Int.ofNat (cellN (gC enB g.1) (0 + Int.toNat (↑s.1 : Int) * 1))) - 0) * 1) (List.drop 0 (bCells (padL (Row.mk (List.take (cellN (gC enB g.1) (0 + Int.toNat
  (↑s.1 : Int) * 1) * 1) (List.drop (cellO (gC enB g.1) (0 + Int.toNat (↑s.1 : Int) * 1)) (gCells (cellZ (gC enB g.1) (0 + Int.toNat (↑s.1 : Int) * 1))))) true (Ob.cells
  true)) (5 : Int))))) true (Ob.cells true))) /\ ((List.length j.2.1.1 - j.2.1.2 = pN (Row.mk (bCells s.2.1.1) false (Ob.cells true)) s.2.1.2 g.2 (bz s.2.2) (scB s.2.1.3)
  s.2.3 (Row.mk (List.take ((Int.toNat (Int.ofNat (cellN (gC enB g.1) (0 + Int.toNat (↑s.1 : Int) * 1))) - 0) * 1) (List.drop 0 (bCells (padL (Row.mk (List.take (cellN (gC
  enB g.1) (0 + Int.toNat (↑s.1 : Int) * 1) * 1) (List.drop (cellO (gC enB g.1) (0 + Int.toNat (↑s.1 : Int) * 1)) (gCells (cellZ (gC enB g.1) (0 + Int.toNat (↑s.1 : Int) *
  1))))) true (Ob.cells true)) (5 : Int))))) true (Ob.cells true))) /\ ((g.2 = g.2) /\ ((bz j.2.2 = pT (Row.mk (bCells s.2.1.1) false (Ob.cells true)) s.2.1.2 g.2 (bz s.2.2)
  (scB s.2.1.3) s.2.3 (Row.mk (List.take ((Int.toNat (Int.ofNat (cellN (gC enB g.1) (0 + Int.toNat (↑s.1 : Int) * 1))) - 0) * 1) (List.drop 0 (bCells (padL (Row.mk
  (List.take (cellN (gC enB g.1) (0 + Int.toNat (↑s.1 : Int) * 1) * 1) (List.drop (cellO (gC enB g.1) (0 + Int.toNat (↑s.1 : Int) * 1)) (gCells (cellZ (gC enB g.1) (0 +
  Int.toNat (↑s.1 : Int) * 1))))) true (Ob.cells true)) (5 : Int))))) true (Ob.cells true))) /\ ((scB j.2.1.3 = pB (Row.mk (bCells s.2.1.1) false (Ob.cells true)) s.2.1.2
  g.2 (bz s.2.2) (scB s.2.1.3) s.2.3 (Row.mk (List.take ((Int.toNat (Int.ofNat (cellN (gC enB g.1) (0 + Int.toNat (↑s.1 : Int) * 1))) - 0) * 1) (List.drop 0 (bCells (padL
  (Row.mk (List.take (cellN (gC enB g.1) (0 + Int.toNat (↑s.1 : Int) * 1) * 1) (List.drop (cellO (gC enB g.1) (0 + Int.toNat (↑s.1 : Int) * 1)) (gCells (cellZ (gC enB g.1)
  (0 + Int.toNat (↑s.1 : Int) * 1))))) true (Ob.cells true)) (5 : Int))))) true (Ob.cells true))) /\ ((j.2.3 = pC (Row.mk (bCells s.2.1.1) false (Ob.cells true)) s.2.1.2 g.2
  (bz s.2.2) (scB s.2.1.3) s.2.3 (Row.mk (List.take ((Int.toNat (Int.ofNat (cellN (gC enB g.1) (0 + Int.toNat (↑s.1 : Int) * 1))) - 0) * 1) (List.drop 0 (bCells (padL
  (Row.mk (List.take (cellN (gC enB g.1) (0 + Int.toNat (↑s.1 : Int) * 1) * 1) (List.drop (cellO (gC enB g.1) (0 + Int.toNat (↑s.1 : Int) * 1)) (gCells (cellZ (gC enB g.1)
  (0 + Int.toNat (↑s.1 : Int) * 1))))) true (Ob.cells true)) (5 : Int))))) true (Ob.cells true))) /\ (((0 : Int) = (0 : Int)) /\ ((Eq (α := List Value) (bCells j.2.1.1)
  (bCells (pX (Row.mk (bCells s.2.1.1) false (Ob.cells true)) s.2.1.2 g.2 (bz s.2.2) (scB s.2.1.3) s.2.3 (Row.mk (List.take ((Int.toNat (Int.ofNat (cellN (gC enB g.1) (0 +
  Int.toNat (↑s.1 : Int) * 1))) - 0) * 1) (List.drop 0 (bCells (padL (Row.mk (List.take (cellN (gC enB g.1) (0 + Int.toNat (↑s.1 : Int) * 1) * 1) (List.drop (cellO (gC enB
  g.1) (0 + Int.toNat (↑s.1 : Int) * 1)) (gCells (cellZ (gC enB g.1) (0 + Int.toNat (↑s.1 : Int) * 1))))) true (Ob.cells true)) (5 : Int))))) true (Ob.cells true))))) /\
  ((Plain (bCells j.2.1.1)) /\ ((j.3.1.2 = 0 + uK (Row.mk (bCells s.3.1.1) false (Ob.cells true)) s.3.1.2 g.2 (bz s.3.2) (scB s.3.1.3) s.3.3 (Row.mk (List.take (cellN (gC
  enB g.1) (0 + Int.toNat (↑s.1 : Int) * 1) * 1) (List.drop (cellO (gC enB g.1) (0 + Int.toNat (↑s.1 : Int) * 1)) (gCells (cellZ (gC enB g.1) (0 + Int.toNat (↑s.1 : Int) *
  1))))) true (Ob.cells true))) /\ ((List.length j.3.1.1 - j.3.1.2 = uN (Row.mk (bCells s.3.1.1) false (Ob.cells true)) s.3.1.2 g.2 (bz s.3.2) (scB s.3.1.3) s.3.3 (Row.mk
  (List.take (cellN (gC enB g.1) (0 + Int.toNat (↑s.1 : Int) * 1) * 1) (List.drop (cellO (gC enB g.1) (0 + Int.toNat (↑s.1 : Int) * 1)) (gCells (cellZ (gC enB g.1) (0 +
  Int.toNat (↑s.1 : Int) * 1))))) true (Ob.cells true))) /\ ((bz j.3.2 = uT (Row.mk (bCells s.3.1.1) false (Ob.cells true)) s.3.1.2 g.2 (bz s.3.2) (scB s.3.1.3) s.3.3
  (Row.mk (List.take (cellN (gC enB g.1) (0 + Int.toNat (↑s.1 : Int) * 1) * 1) (List.drop (cellO (gC enB g.1) (0 + Int.toNat (↑s.1 : Int) * 1)) (gCells (cellZ (gC enB g.1)
  (0 + Int.toNat (↑s.1 : Int) * 1))))) true (Ob.cells true))) /\ ((g.2 = g.2) /\ ((scB j.3.1.3 = uB (Row.mk (bCells s.3.1.1) false (Ob.cells true)) s.3.1.2 g.2 (bz s.3.2)
  (scB s.3.1.3) s.3.3 (Row.mk (List.take (cellN (gC enB g.1) (0 + Int.toNat (↑s.1 : Int) * 1) * 1) (List.drop (cellO (gC enB g.1) (0 + Int.toNat (↑s.1 : Int) * 1)) (gCells
  (cellZ (gC enB g.1) (0 + Int.toNat (↑s.1 : Int) * 1))))) true (Ob.cells true))) /\ ((j.3.3 = uC (Row.mk (bCells s.3.1.1) false (Ob.cells true)) s.3.1.2 g.2 (bz s.3.2) (scB
  s.3.1.3) s.3.3 (Row.mk (List.take (cellN (gC enB g.1) (0 + Int.toNat (↑s.1 : Int) * 1) * 1) (List.drop (cellO (gC enB g.1) (0 + Int.toNat (↑s.1 : Int) * 1)) (gCells (cellZ
  (gC enB g.1) (0 + Int.toNat (↑s.1 : Int) * 1))))) true (Ob.cells true))) /\ (((0 : Int) = (0 : Int)) /\ ((Eq (α := List Value) (bCells j.3.1.1) (bCells (uX (Row.mk (bCells
  s.3.1.1) false (Ob.cells true)) s.3.1.2 g.2 (bz s.3.2) (scB s.3.1.3) s.3.3 (Row.mk (List.take (cellN (gC enB g.1) (0 + Int.toNat (↑s.1 : Int) * 1) * 1) (List.drop (cellO
  (gC enB g.1) (0 + Int.toNat (↑s.1 : Int) * 1)) (gCells (cellZ (gC enB g.1) (0 + Int.toNat (↑s.1 : Int) * 1))))) true (Ob.cells true))))) /\ ((Plain (bCells j.3.1.1)) /\
  ((Eq (α := List Value) (gC enB g.1) (gC enB g.1)) /\ ((Plain (gC enB g.1)) /\ True)))))))))))))))))))))))))))))))))))))))))) False)))) False) (∃ y : Unit, ((True) /\ ((Eq
  (α := List Value) (gC enB o) (gC enB o)) /\ ((Plain (gC enB o)) /\ True))))) (∃ y : Unit, ((True) /\ ((Eq (α := List Value) (gC enB o) (gC enB o)) /\ ((Plain (gC enB o))
  /\ True))))) := by kernel_rfl
theorem R_vc2 (m : Int) (l : List (List UInt8)) : mcall EtR mF1 60 5 [.int .i64 m, .bool false, .bool true, slc1 0 l.length] ⟨mkR (nums 0 [gRo enB l]), 1⟩ (retIs 1 (.bool true) [gRo enB l]) =
  (br (decide (m < (16384 : Int))) (br (decide (m < (16384 : Int))) (((True /\ (True /\ (True /\ True)))) /\ ((true = true) /\ ((Eq (α := List Value) (gC enB l) (gC enB l))
  /\ ((Plain (gC enB l)) /\ True)))) (br (decide (m > (16777215 : Int))) (((True /\ (True /\ (True /\ True)))) /\ ((true = true) /\ ((Eq (α := List Value) (gC enB l) (gC enB
  l)) /\ ((Plain (gC enB l)) /\ True)))) ((true = false) /\ ((Eq (α := List Value) (gC enB l) (gC enB l)) /\ ((Plain (gC enB l)) /\ True))))) (br (decide (m > (16777215 :
  Int))) (br (decide (m < (16384 : Int))) (((True /\ (True /\ (True /\ True)))) /\ ((true = true) /\ ((Eq (α := List Value) (gC enB l) (gC enB l)) /\ ((Plain (gC enB l)) /\
  True)))) (br (decide (m > (16777215 : Int))) (((True /\ (True /\ (True /\ True)))) /\ ((true = true) /\ ((Eq (α := List Value) (gC enB l) (gC enB l)) /\ ((Plain (gC enB
  l)) /\ True)))) ((true = false) /\ ((Eq (α := List Value) (gC enB l) (gC enB l)) /\ ((Plain (gC enB l)) /\ True))))) (br (decide (m < (16384 : Int))) ((true = false) /\
  ((Eq (α := List Value) (gC enB l) (gC enB l)) /\ ((Plain (gC enB l)) /\ True))) (br (decide (m > (16777215 : Int))) ((true = false) /\ ((Eq (α := List Value) (gC enB l)
  (gC enB l)) /\ ((Plain (gC enB l)) /\ True))) (br (decide (0 + List.length l * 1 <= List.length (gC enB l))) ((true = true) /\ (br (allOne (List.take (List.length l * 1)
  (List.drop 0 (gC enB l)))) (br (decide (1 + List.length l <= 16777216)) (∃ g : Gr1, ((∀ (p : List UInt8), p ∈ Gr.l (Gr1.g g) → List.length p <= maxLen) /\ ((0 = 0) /\
  ((List.length g.1.1 = 1 + List.length l) /\ ((0 = 0) /\ ((0 = 0) /\ (((↑0 : Int) = (0 : Int)) /\ ((Eq (α := List Value) (gC enB g.2) (gC enB l)) /\ ((Plain (gC enB g.2))
  /\ ((0 = 0) /\ ((g.1.2 = m) /\ ((bz g.3 = ByteArray.mk #[]) /\ ((scB false = (0 : Int)) /\ (((0 : Int) = (0 : Int)) /\ (((0 : Int) = (0 : Int)) /\ ((Eq (α := List Value)
  ([]) ([])) /\ ((0 = 0) /\ ((bz g.3 = ByteArray.mk #[]) /\ ((g.1.2 = m) /\ ((scB false = (0 : Int)) /\ (((0 : Int) = (0 : Int)) /\ (((0 : Int) = (0 : Int)) /\ ((Eq (α :=
  List Value) ([]) ([])) /\ ((Eq (α := List Value) (gC enB g.1.1) (Value.slice (some (Addr.mk (gCode (bCells prefL)) 0 (some 0))) 24 1 :: ([] ++ List.take (List.length l *
  1) (List.drop 0 (gC enB l))))) /\ ((Plain (gC enB g.1.1)) /\ (∀ (side : Bool), (br (side) (∀ (y : Unit), ((True) → (((True /\ (True /\ (True /\ True)))) /\ ((true = true)
  /\ ((Eq (α := List Value) (gC enB l) (gC enB g.2)) /\ ((Plain (gC enB l)) /\ True)))))) (∀ (y : Unit), ((False) → ((true = false) /\ ((Eq (α := List Value) (gC enB l) (gC
  enB g.2)) /\ ((Plain (gC enB l)) /\ True)))))))))))))))))))))))))))))))) False) False)) False))))) := by kernel_rfl
theorem R_vc3 (m : Int) (l : List (List UInt8)) : mcall EtR mF1 60 5 [.int .i64 m, .bool true, .bool true, slc1 0 l.length] ⟨mkR (nums 0 [gRo enB l]), 1⟩ (retIs 1 (.bool true) [gRo enB l]) =
  (br (decide (m < (16384 : Int))) (br (decide (m < (16384 : Int))) (((True /\ (True /\ (True /\ True)))) /\ ((true = true) /\ ((Eq (α := List Value) (gC enB l) (gC enB l))
  /\ ((Plain (gC enB l)) /\ True)))) (br (decide (m > (16777215 : Int))) (((True /\ (True /\ (True /\ True)))) /\ ((true = true) /\ ((Eq (α := List Value) (gC enB l) (gC enB
  l)) /\ ((Plain (gC enB l)) /\ True)))) ((true = false) /\ ((Eq (α := List Value) (gC enB l) (gC enB l)) /\ ((Plain (gC enB l)) /\ True))))) (br (decide (m > (16777215 :
  Int))) (br (decide (m < (16384 : Int))) (((True /\ (True /\ (True /\ True)))) /\ ((true = true) /\ ((Eq (α := List Value) (gC enB l) (gC enB l)) /\ ((Plain (gC enB l)) /\
  True)))) (br (decide (m > (16777215 : Int))) (((True /\ (True /\ (True /\ True)))) /\ ((true = true) /\ ((Eq (α := List Value) (gC enB l) (gC enB l)) /\ ((Plain (gC enB
  l)) /\ True)))) ((true = false) /\ ((Eq (α := List Value) (gC enB l) (gC enB l)) /\ ((Plain (gC enB l)) /\ True))))) (br (decide (m < (16384 : Int))) ((true = false) /\
  ((Eq (α := List Value) (gC enB l) (gC enB l)) /\ ((Plain (gC enB l)) /\ True))) (br (decide (m > (16777215 : Int))) ((true = false) /\ ((Eq (α := List Value) (gC enB l)
  (gC enB l)) /\ ((Plain (gC enB l)) /\ True))) (br (decide (0 + List.length l * 1 <= List.length (gC enB l))) ((true = true) /\ (br (allOne (List.take (List.length l * 1)
  (List.drop 0 (gC enB l)))) (br (decide (1 + List.length l <= 16777216)) (∃ g : Gr1, ((∀ (p : List UInt8), p ∈ Gr.l (Gr1.g g) → List.length p <= maxLen) /\ ((0 = 0) /\
  ((List.length g.1.1 = 1 + List.length l) /\ ((0 = 0) /\ ((0 = 0) /\ (((↑0 : Int) = (0 : Int)) /\ ((Eq (α := List Value) (gC enB g.2) (gC enB l)) /\ ((Plain (gC enB g.2))
  /\ ((0 = 0) /\ ((g.1.2 = m) /\ ((bz g.3 = ByteArray.mk #[80, 82, 73, 32, 42, 32, 72, 84, 84, 80, 47, 50, 46, 48, 13, 10, 13, 10, 83, 77, 13, 10, 13, 10]) /\ ((scB false =
  (0 : Int)) /\ (((0 : Int) = (0 : Int)) /\ (((0 : Int) = (0 : Int)) /\ ((Eq (α := List Value) ([]) ([])) /\ ((0 = 0) /\ ((bz g.3 = ByteArray.mk #[80, 82, 73, 32, 42, 32,
  72, 84, 84, 80, 47, 50, 46, 48, 13, 10, 13, 10, 83, 77, 13, 10, 13, 10]) /\ ((g.1.2 = m) /\ ((scB false = (0 : Int)) /\ (((0 : Int) = (0 : Int)) /\ (((0 : Int) = (0 :
  Int)) /\ ((Eq (α := List Value) ([]) ([])) /\ ((Eq (α := List Value) (gC enB g.1.1) (Value.slice (some (Addr.mk (gCode (bCells prefL)) 0 (some 0))) 24 1 :: ([] ++
  List.take (List.length l * 1) (List.drop 0 (gC enB l))))) /\ ((Plain (gC enB g.1.1)) /\ (∀ (side : Bool), (br (side) (∀ (y : Unit), ((True) → (((True /\ (True /\ (True /\
  True)))) /\ ((true = true) /\ ((Eq (α := List Value) (gC enB l) (gC enB g.2)) /\ ((Plain (gC enB l)) /\ True)))))) (∀ (y : Unit), ((False) → ((true = false) /\ ((Eq (α :=
  List Value) (gC enB l) (gC enB g.2)) /\ ((Plain (gC enB l)) /\ True)))))))))))))))))))))))))))))))) False) False)) False))))) := by kernel_rfl
theorem tR_ok : ∀ x ∈ tR, EntOk Try.prog x := all_cons eRunF_ok (all_cons eFP_ok (all_cons eFD_ok (all_cons eSameF_ok (all_cons eRoo_ok (all_cons eIntB_ok (all_nil))))))
theorem enB_k (a : List UInt8) : (enB a).length = 1 := rfl
theorem enB_pl (l : List (List UInt8)) : Plain (gC enB l) := gC_plain (fun a v hv => by
  unfold enB at hv
  rw [List.mem_singleton] at hv; subst hv; rfl) l
theorem rel0 (pf : List UInt8) : Rel (sF0 pf).q (sF0 pf).w := ⟨⟨⟨Nat.le_refl _, fun _ => rfl⟩, fun _ => rfl⟩, ⟨⟨Nat.le_refl _, fun _ => rfl⟩, fun _ => rfl⟩, rfl, rfl, fun _ => ⟨rfl, rfl, fun _ => rfl⟩⟩
theorem cBf {l : List (List UInt8)} {i : Nat} (h : i < l.length) : (gC enB l)[i]? = some (.slice (some ⟨gCode (bCells l[i]), 0, some 0⟩) l[i].length 1) := by
  have := (gC_get0 enB_k l i h (by omega)).trans (rfl : (enB l[i])[0]? = some (.slice (some ⟨gCode (bCells l[i]), 0, some 0⟩) l[i].length 1))
  rwa [Nat.mul_one] at this
theorem padL_mk (P : List UInt8) : padL ⟨bCells P, true, .cells true⟩ 5 = P ++ List.replicate 80 5 := by
  unfold padL
  rw [sealV_eq, dB_mk]; rfl
theorem inI_mk (P : List UInt8) : inI ⟨bCells (P ++ List.replicate 80 5), true, .cells true⟩ ⟨bCells P, true, .cells true⟩ 5 = true := by
  unfold inI
  rw [sealV_eq, dB_mk, dB_mk]; exact decide_eq_true rfl
theorem F_piece : PieceOk EtR 1 (5, pF, specF) := by
  refine piece_loop mixed (calls_envT tR_ok) (lok_envT _ _) lm_none (n := 60) (by kernel_rfl) (fun g : Gr0 => sF0 g.pf) (fun g s => InvF g.g s) (fun g s => g.g.l.length - s.i) (sl := fun g s => slF g.g s) (rl := fun g s => rlF g.g s) (fun g hg => ⟨Nat.zero_le _, Nat.zero_le _, rel0 _, Nat.le_refl _, Nat.le_refl _⟩) (fun g s hg hi => ?_)
  refine (R_round g.g s _ _).mpr ?_
  obtain ⟨h1, h2, h3, h4, h5⟩ := hi
  refine br_if (fun hlt => ?_) (fun hlt => ⟨(), by simp [enB_pl]⟩)
  refine br_if (fun hlt4 => ?_) (fun hlt4 => ⟨(), by simp [enB_pl]⟩)
  have hic : s.i < g.g.l.length := by have : (s.i : Int) < (g.g.l.length : Int) := hlt; omega
  have hc := cBf hic
  obtain ⟨z1, z2, z3⟩ := cZ_of hc
  have hz : gCells (gCode (bCells g.g.l[s.i])) = bCells g.g.l[s.i] := gCells_code (bCells_g _)
  simp (disch := omega) only [ofNat_eq, toNat_cast, Nat.zero_add, Nat.add_zero, Nat.mul_one, List.drop_zero, bCells_len, bCells_drop, bCells_take, bCells_app, bCells_one, bCells_plain, List.length_replicate, List.length_append, List.length_take, List.length_drop, List.take_length, and_true, true_and, and_self, decide_true, List.length_nil, List.length_cons, Nat.sub_zero, dB_mk, dB_ro, List.take_zero, hc, z1, z2, z3, hz, toNat_cast, padL_mk, brD]
  refine br_if (fun hp => ?_) (fun hp => ?_)
  · obtain ⟨P, hP⟩ : ∃ P, P = List.take 400 g.g.l[s.i] := ⟨_, rfl⟩
    have hPl : P.length = 400 := by rw [hP, List.length_take]; omega
    have tP : List.take 400 (P ++ List.replicate 80 5) = P := by rw [List.take_append_of_le_length (by omega), List.take_of_length_le (by omega)]
    obtain ⟨e1, e2, e3, e4, e5, e6, e7, e8⟩ := p_all s.q g.g.m P true (.cells true)
    obtain ⟨u1, u2, u3, u4, u5, u6, u7, u8⟩ := u_all s.w g.g.m P true (.cells true)
    unfold bOwn at e1 e2 e3 e4 e5 e6 e7 e8 u1 u2 u3 u4 u5 u6 u7 u8
    obtain ⟨r1, r2, r3, r4, r5, r6, r7, r8, r9⟩ := rel_step (m := g.g.m) h3 P
    simp (disch := omega) only [← hP, tP, e1, e2, e3, e4, e5, e6, e7, e8, u1, u2, u3, u4, u5, u6, u7, u8, ← r1, ← r2, ← r3, brD]
    have tk : List.take ((fqL g.g.m s.q P).length * 4) (gC enG (fqL g.g.m s.q P)) = gC enG (fqL g.g.m s.q P) := List.take_of_length_le (by rw [gC_len enG_k]; exact Nat.le_refl _)
    have hl : (gC enG (fqL g.g.m s.q P)).length = (fqL g.g.m s.q P).length * 4 := gC_len enG_k _
    have tP2 : List.take 480 (P ++ List.replicate 80 5) = P ++ List.replicate 80 5 := List.take_of_length_le (by rw [List.length_append, List.length_replicate]; omega)
    have hf : ∀ f ∈ fqL g.g.m s.q P, f.p.length ≤ 16777216 := fun f hf => by have := r9 f hf; omega
    have hF : IsF ⟨gC enG (fqL g.g.m s.q P), true, .cells true⟩ (fqL g.g.m s.q P).length := isF_mk rfl hf
    have q1 : IsQ ⟨bCells s.q.r.x, false, .cells true⟩ s.q.r.k (s.q.r.x.length - s.q.r.k) (bz s.q.s) (scB s.q.r.bad) s.q.c ⟨bCells P, true, .cells true⟩ 400 := ⟨s.q, P, rfl, rfl, rfl, rfl, rfl, rfl, h3.1, rfl, hPl.symm, by omega⟩
    have q2 : IsQ ⟨bCells s.w.r.x, false, .cells true⟩ s.w.r.k (s.w.r.x.length - s.w.r.k) (bz s.w.s) (scB s.w.r.bad) s.w.c ⟨bCells P, true, .cells true⟩ 400 := ⟨s.w, P, rfl, rfl, rfl, rfl, rfl, rfl, h3.2.1, rfl, hPl.symm, by omega⟩
    have i8 : IsU8 5 := ⟨5, rfl⟩
    simp only [tk, hl, tP2]
    have hmax : maxLen = 9223372036854775807 := rfl
    refine ⟨⟨by omega, isB_mk _ _ hPl.symm, i8, by omega⟩, ⟨by omega, enG_pl _, q1⟩, ⟨by omega, enG_pl _, q2⟩, ⟨⟨⟨Nat.le_refl _, enG_pl _⟩, Nat.le_refl _, enG_pl _⟩, hF, hF, by omega⟩, br_nb (by rw [zF_same]; rfl) (br_nb (by simp) (br_nb (by rw [r5]; simp) ⟨⟨⟨by omega, by omega⟩, isB_mk _ _ (by rw [List.length_append, List.length_replicate]; omega), isB_mk _ _ hPl.symm, i8, by omega, by omega⟩, br_nb (by rw [inI_mk]; rfl) ⟨⟨s.i + 1, fqN g.g.m s.q P, dqN g.g.m s.w P⟩, ⟨by simp only; omega, by simp only; omega, r4, Nat.le_trans r6 (by simp only; omega), Nat.le_trans r7 (by simp only; omega)⟩, by simp only; omega, (i64_succ (by omega)).symm, enB_pl _, rfl, rfl, rfl, congrArg scB (fq_bad _ _ _), rfl, rfl, rfl, rfl, rfl, congrArg scB ((dq_bad _ _ _).trans r2.symm), r3.symm, rfl⟩⟩))⟩
  · obtain ⟨P, hP⟩ : ∃ P, P = g.g.l[s.i] := ⟨_, rfl⟩
    have hPl : P.length = g.g.l[s.i].length := by rw [hP]
    have tP : List.take g.g.l[s.i].length (P ++ List.replicate 80 5) = P := by rw [← hPl, List.take_append_of_le_length (by omega), List.take_of_length_le (by omega)]
    obtain ⟨e1, e2, e3, e4, e5, e6, e7, e8⟩ := p_all s.q g.g.m P true (.cells true)
    obtain ⟨u1, u2, u3, u4, u5, u6, u7, u8⟩ := u_all s.w g.g.m P true (.cells true)
    unfold bOwn at e1 e2 e3 e4 e5 e6 e7 e8 u1 u2 u3 u4 u5 u6 u7 u8
    obtain ⟨r1, r2, r3, r4, r5, r6, r7, r8, r9⟩ := rel_step (m := g.g.m) h3 P
    simp only [← hP] at tP hPl hp ⊢
    simp (disch := omega) only [tP, e1, e2, e3, e4, e5, e6, e7, e8, u1, u2, u3, u4, u5, u6, u7, u8, ← r1, ← r2, ← r3, brD]
    have tk : List.take ((fqL g.g.m s.q P).length * 4) (gC enG (fqL g.g.m s.q P)) = gC enG (fqL g.g.m s.q P) := List.take_of_length_le (by rw [gC_len enG_k]; exact Nat.le_refl _)
    have hl : (gC enG (fqL g.g.m s.q P)).length = (fqL g.g.m s.q P).length * 4 := gC_len enG_k _
    have tP2 : List.take (P.length + 80) (P ++ List.replicate 80 5) = P ++ List.replicate 80 5 := List.take_of_length_le (by rw [List.length_append, List.length_replicate]; omega)
    have hf : ∀ f ∈ fqL g.g.m s.q P, f.p.length ≤ 16777216 := fun f hf => by have := r9 f hf; omega
    have hF : IsF ⟨gC enG (fqL g.g.m s.q P), true, .cells true⟩ (fqL g.g.m s.q P).length := isF_mk rfl hf
    have q1 : IsQ ⟨bCells s.q.r.x, false, .cells true⟩ s.q.r.k (s.q.r.x.length - s.q.r.k) (bz s.q.s) (scB s.q.r.bad) s.q.c ⟨bCells P, true, .cells true⟩ P.length := ⟨s.q, P, rfl, rfl, rfl, rfl, rfl, rfl, h3.1, rfl, rfl, by omega⟩
    have q2 : IsQ ⟨bCells s.w.r.x, false, .cells true⟩ s.w.r.k (s.w.r.x.length - s.w.r.k) (bz s.w.s) (scB s.w.r.bad) s.w.c ⟨bCells P, true, .cells true⟩ P.length := ⟨s.w, P, rfl, rfl, rfl, rfl, rfl, rfl, h3.2.1, rfl, rfl, by omega⟩
    have i8 : IsU8 5 := ⟨5, rfl⟩
    simp only [tk, hl, tP2]
    have hmax : maxLen = 9223372036854775807 := rfl
    refine ⟨⟨by omega, isB_mk _ _ rfl, i8, by omega⟩, ⟨by omega, enG_pl _, q1⟩, ⟨by omega, enG_pl _, q2⟩, ⟨⟨⟨Nat.le_refl _, enG_pl _⟩, Nat.le_refl _, enG_pl _⟩, hF, hF, by omega⟩, br_nb (by rw [zF_same]; rfl) (br_nb (by simp) (br_nb (by rw [r5]; simp) ⟨⟨⟨by omega, by omega⟩, isB_mk _ _ (by rw [List.length_append, List.length_replicate]), isB_mk _ _ rfl, i8, by omega, by omega⟩, br_nb (by rw [inI_mk]; rfl) ⟨⟨s.i + 1, fqN g.g.m s.q P, dqN g.g.m s.w P⟩, ⟨by simp only; omega, by simp only; omega, r4, Nat.le_trans r6 (by simp only; omega), Nat.le_trans r7 (by simp only; omega)⟩, by simp only; omega, (i64_succ (by omega)).symm, enB_pl _, rfl, rfl, rfl, congrArg scB (fq_bad _ _ _), rfl, rfl, rfl, rfl, rfl, congrArg scB ((dq_bad _ _ _).trans r2.symm), r3.symm, rfl⟩⟩))⟩
theorem F1_piece : PieceOk EtR 1 (5, pF, specF1) := by
  refine piece_loop mixed (calls_envT tR_ok) (lok_envT _ _) lm_none (n := 60) (by kernel_rfl) (fun g : Gr1 => sF0 g.pf) (fun g s => InvF g.g s) (fun g s => g.g.l.length - s.i) (sl := fun g s => slF1 g.g s) (rl := fun g s => rlF1 g.g g.o s) (fun g hg => ⟨Nat.zero_le _, Nat.zero_le _, rel0 _, Nat.le_refl _, Nat.le_refl _⟩) (fun g s hg hi => ?_)
  refine (R_round1 g.g g.o s _ _).mpr ?_
  obtain ⟨h1, h2, h3, h4, h5⟩ := hi
  refine br_if (fun hlt => ?_) (fun hlt => ⟨(), by simp [enB_pl]⟩)
  refine br_if (fun hlt4 => ?_) (fun hlt4 => ⟨(), by simp [enB_pl]⟩)
  have hic : s.i < g.g.l.length := by have : (s.i : Int) < (g.g.l.length : Int) := hlt; omega
  have hc := cBf hic
  obtain ⟨z1, z2, z3⟩ := cZ_of hc
  have hz : gCells (gCode (bCells g.g.l[s.i])) = bCells g.g.l[s.i] := gCells_code (bCells_g _)
  simp (disch := omega) only [ofNat_eq, toNat_cast, Nat.zero_add, Nat.add_zero, Nat.mul_one, List.drop_zero, bCells_len, bCells_drop, bCells_take, bCells_app, bCells_one, bCells_plain, List.length_replicate, List.length_append, List.length_take, List.length_drop, List.take_length, and_true, true_and, and_self, decide_true, List.length_nil, List.length_cons, Nat.sub_zero, dB_mk, dB_ro, List.take_zero, hc, z1, z2, z3, hz, toNat_cast, padL_mk, brD]
  refine br_if (fun hp => ?_) (fun hp => ?_)
  · obtain ⟨P, hP⟩ : ∃ P, P = List.take 400 g.g.l[s.i] := ⟨_, rfl⟩
    have hPl : P.length = 400 := by rw [hP, List.length_take]; omega
    have tP : List.take 400 (P ++ List.replicate 80 5) = P := by rw [List.take_append_of_le_length (by omega), List.take_of_length_le (by omega)]
    obtain ⟨e1, e2, e3, e4, e5, e6, e7, e8⟩ := p_all s.q g.g.m P true (.cells true)
    obtain ⟨u1, u2, u3, u4, u5, u6, u7, u8⟩ := u_all s.w g.g.m P true (.cells true)
    unfold bOwn at e1 e2 e3 e4 e5 e6 e7 e8 u1 u2 u3 u4 u5 u6 u7 u8
    obtain ⟨r1, r2, r3, r4, r5, r6, r7, r8, r9⟩ := rel_step (m := g.g.m) h3 P
    simp (disch := omega) only [← hP, tP, e1, e2, e3, e4, e5, e6, e7, e8, u1, u2, u3, u4, u5, u6, u7, u8, ← r1, ← r2, ← r3, brD]
    have tk : List.take ((fqL g.g.m s.q P).length * 4) (gC enG (fqL g.g.m s.q P)) = gC enG (fqL g.g.m s.q P) := List.take_of_length_le (by rw [gC_len enG_k]; exact Nat.le_refl _)
    have hl : (gC enG (fqL g.g.m s.q P)).length = (fqL g.g.m s.q P).length * 4 := gC_len enG_k _
    have tP2 : List.take 480 (P ++ List.replicate 80 5) = P ++ List.replicate 80 5 := List.take_of_length_le (by rw [List.length_append, List.length_replicate]; omega)
    have hf : ∀ f ∈ fqL g.g.m s.q P, f.p.length ≤ 16777216 := fun f hf => by have := r9 f hf; omega
    have hF : IsF ⟨gC enG (fqL g.g.m s.q P), true, .cells true⟩ (fqL g.g.m s.q P).length := isF_mk rfl hf
    have q1 : IsQ ⟨bCells s.q.r.x, false, .cells true⟩ s.q.r.k (s.q.r.x.length - s.q.r.k) (bz s.q.s) (scB s.q.r.bad) s.q.c ⟨bCells P, true, .cells true⟩ 400 := ⟨s.q, P, rfl, rfl, rfl, rfl, rfl, rfl, h3.1, rfl, hPl.symm, by omega⟩
    have q2 : IsQ ⟨bCells s.w.r.x, false, .cells true⟩ s.w.r.k (s.w.r.x.length - s.w.r.k) (bz s.w.s) (scB s.w.r.bad) s.w.c ⟨bCells P, true, .cells true⟩ 400 := ⟨s.w, P, rfl, rfl, rfl, rfl, rfl, rfl, h3.2.1, rfl, hPl.symm, by omega⟩
    have i8 : IsU8 5 := ⟨5, rfl⟩
    simp only [tk, hl, tP2]
    have hmax : maxLen = 9223372036854775807 := rfl
    refine ⟨⟨by omega, isB_mk _ _ hPl.symm, i8, by omega⟩, ⟨by omega, enG_pl _, q1⟩, ⟨by omega, enG_pl _, q2⟩, ⟨⟨⟨Nat.le_refl _, enG_pl _⟩, Nat.le_refl _, enG_pl _⟩, hF, hF, by omega⟩, br_nb (by rw [zF_same]; rfl) (br_nb (by simp) (br_nb (by rw [r5]; simp) ⟨⟨⟨by omega, by omega⟩, isB_mk _ _ (by rw [List.length_append, List.length_replicate]; omega), isB_mk _ _ hPl.symm, i8, by omega, by omega⟩, br_nb (by rw [inI_mk]; rfl) ⟨⟨s.i + 1, fqN g.g.m s.q P, dqN g.g.m s.w P⟩, ⟨by simp only; omega, by simp only; omega, r4, Nat.le_trans r6 (by simp only; omega), Nat.le_trans r7 (by simp only; omega)⟩, by simp only; omega, (i64_succ (by omega)).symm, enB_pl _, rfl, rfl, rfl, congrArg scB (fq_bad _ _ _), rfl, rfl, rfl, rfl, rfl, congrArg scB ((dq_bad _ _ _).trans r2.symm), r3.symm, rfl, enB_pl _⟩⟩))⟩
  · obtain ⟨P, hP⟩ : ∃ P, P = g.g.l[s.i] := ⟨_, rfl⟩
    have hPl : P.length = g.g.l[s.i].length := by rw [hP]
    have tP : List.take g.g.l[s.i].length (P ++ List.replicate 80 5) = P := by rw [← hPl, List.take_append_of_le_length (by omega), List.take_of_length_le (by omega)]
    obtain ⟨e1, e2, e3, e4, e5, e6, e7, e8⟩ := p_all s.q g.g.m P true (.cells true)
    obtain ⟨u1, u2, u3, u4, u5, u6, u7, u8⟩ := u_all s.w g.g.m P true (.cells true)
    unfold bOwn at e1 e2 e3 e4 e5 e6 e7 e8 u1 u2 u3 u4 u5 u6 u7 u8
    obtain ⟨r1, r2, r3, r4, r5, r6, r7, r8, r9⟩ := rel_step (m := g.g.m) h3 P
    simp only [← hP] at tP hPl hp ⊢
    simp (disch := omega) only [tP, e1, e2, e3, e4, e5, e6, e7, e8, u1, u2, u3, u4, u5, u6, u7, u8, ← r1, ← r2, ← r3, brD]
    have tk : List.take ((fqL g.g.m s.q P).length * 4) (gC enG (fqL g.g.m s.q P)) = gC enG (fqL g.g.m s.q P) := List.take_of_length_le (by rw [gC_len enG_k]; exact Nat.le_refl _)
    have hl : (gC enG (fqL g.g.m s.q P)).length = (fqL g.g.m s.q P).length * 4 := gC_len enG_k _
    have tP2 : List.take (P.length + 80) (P ++ List.replicate 80 5) = P ++ List.replicate 80 5 := List.take_of_length_le (by rw [List.length_append, List.length_replicate]; omega)
    have hf : ∀ f ∈ fqL g.g.m s.q P, f.p.length ≤ 16777216 := fun f hf => by have := r9 f hf; omega
    have hF : IsF ⟨gC enG (fqL g.g.m s.q P), true, .cells true⟩ (fqL g.g.m s.q P).length := isF_mk rfl hf
    have q1 : IsQ ⟨bCells s.q.r.x, false, .cells true⟩ s.q.r.k (s.q.r.x.length - s.q.r.k) (bz s.q.s) (scB s.q.r.bad) s.q.c ⟨bCells P, true, .cells true⟩ P.length := ⟨s.q, P, rfl, rfl, rfl, rfl, rfl, rfl, h3.1, rfl, rfl, by omega⟩
    have q2 : IsQ ⟨bCells s.w.r.x, false, .cells true⟩ s.w.r.k (s.w.r.x.length - s.w.r.k) (bz s.w.s) (scB s.w.r.bad) s.w.c ⟨bCells P, true, .cells true⟩ P.length := ⟨s.w, P, rfl, rfl, rfl, rfl, rfl, rfl, h3.2.1, rfl, rfl, by omega⟩
    have i8 : IsU8 5 := ⟨5, rfl⟩
    simp only [tk, hl, tP2]
    have hmax : maxLen = 9223372036854775807 := rfl
    refine ⟨⟨by omega, isB_mk _ _ rfl, i8, by omega⟩, ⟨by omega, enG_pl _, q1⟩, ⟨by omega, enG_pl _, q2⟩, ⟨⟨⟨Nat.le_refl _, enG_pl _⟩, Nat.le_refl _, enG_pl _⟩, hF, hF, by omega⟩, br_nb (by rw [zF_same]; rfl) (br_nb (by simp) (br_nb (by rw [r5]; simp) ⟨⟨⟨by omega, by omega⟩, isB_mk _ _ (by rw [List.length_append, List.length_replicate]), isB_mk _ _ rfl, i8, by omega, by omega⟩, br_nb (by rw [inI_mk]; rfl) ⟨⟨s.i + 1, fqN g.g.m s.q P, dqN g.g.m s.w P⟩, ⟨by simp only; omega, by simp only; omega, r4, Nat.le_trans r6 (by simp only; omega), Nat.le_trans r7 (by simp only; omega)⟩, by simp only; omega, (i64_succ (by omega)).symm, enB_pl _, rfl, rfl, rfl, congrArg scB (fq_bad _ _ _), rfl, rfl, rfl, rfl, rfl, congrArg scB ((dq_bad _ _ _).trans r2.symm), r3.symm, rfl, enB_pl _⟩⟩))⟩
theorem R_law (m : Int) (pr sa : Bool) (l : List (List UInt8)) (hm : I64 m) (hl : l.length ≤ 1048576) (ho : ∀ x ∈ l, x.length ≤ 1048576) : Con Try.prog 5 [.int .i64 m, .bool pr, .bool sa, slc1 0 l.length] [gRo enB l] (.bool true) [gRo enB l] := by
  have hmax : maxLen = 9223372036854775807 := rfl
  have ho' : ∀ x ∈ l, x.length ≤ maxLen := fun x hx => by have := ho x hx; omega
  have hp : ∀ x ∈ prefL :: l, x.length ≤ maxLen := fun x hx => by
    rcases List.mem_cons.1 hx with rfl | hx
    · rw [hmax]; decide
    · exact ho' x hx
  have hk : (gC enB l).length = l.length := by have := gC_len enB_k l; omega
  have tk : List.take l.length (gC enB l) = gC enB l := List.take_of_length_le (by omega)
  cases sa with
  | false =>
    cases pr with
    | false =>
      refine con_vc (E := EtR) mixed (calls_envT tR_ok) (lok_envT _ _) (M := mF) (lm_one F_piece) (R_vc0 m l) ?_
      simp only [ofNat_eq, toNat_cast, Nat.zero_add, Nat.add_zero, Nat.mul_one, List.drop_zero, bCells_len, bCells_drop, bCells_take, bCells_app, bCells_one, bCells_plain, List.length_replicate, List.length_append, List.length_take, List.length_drop, List.take_length, and_true, true_and, and_self, decide_true, List.length_nil, List.length_cons, Nat.sub_zero, dB_mk, dB_ro, List.take_zero]
      refine br_if (fun h => br_dec h (enB_pl _)) (fun h1 => br_if (fun h => br_nd h1 (br_dec h (enB_pl _))) (fun h2 => br_nd h1 (br_nd h2 ?_)))
      exact ⟨⟨⟨l, m⟩, []⟩, ho', rfl, rfl, enB_pl _, rfl, rfl, rfl, rfl, rfl, rfl, fun side => br_side (fun _ _ => ⟨rfl, enB_pl _⟩) (fun _ h => h.elim) side⟩
    | true =>
      refine con_vc (E := EtR) mixed (calls_envT tR_ok) (lok_envT _ _) (M := mF) (lm_one F_piece) (R_vc1 m l) ?_
      simp only [ofNat_eq, toNat_cast, Nat.zero_add, Nat.add_zero, Nat.mul_one, List.drop_zero, bCells_len, bCells_drop, bCells_take, bCells_app, bCells_one, bCells_plain, List.length_replicate, List.length_append, List.length_take, List.length_drop, List.take_length, and_true, true_and, and_self, decide_true, List.length_nil, List.length_cons, Nat.sub_zero, dB_mk, dB_ro, List.take_zero]
      refine br_if (fun h => br_dec h (enB_pl _)) (fun h1 => br_if (fun h => br_nd h1 (br_dec h (enB_pl _))) (fun h2 => br_nd h1 (br_nd h2 ?_)))
      exact ⟨⟨⟨l, m⟩, prefL⟩, ho', rfl, rfl, enB_pl _, rfl, rfl, rfl, rfl, rfl, rfl, fun side => br_side (fun _ _ => ⟨rfl, enB_pl _⟩) (fun _ h => h.elim) side⟩
  | true =>
    cases pr with
    | false =>
      refine con_vc (E := EtR) mixed (calls_envT tR_ok) (lok_envT _ _) (M := mF1) (lm_one F1_piece) (R_vc2 m l) ?_
      simp only [ofNat_eq, toNat_cast, Nat.zero_add, Nat.add_zero, Nat.mul_one, List.drop_zero, bCells_len, bCells_drop, bCells_take, bCells_app, bCells_one, bCells_plain, List.length_replicate, List.length_append, List.length_take, List.length_drop, List.take_length, and_true, true_and, and_self, decide_true, List.length_nil, List.length_cons, Nat.sub_zero, dB_mk, dB_ro, List.take_zero]
      refine br_if (fun h => br_dec h (enB_pl _)) (fun h1 => br_if (fun h => br_nd h1 (br_dec h (enB_pl _))) (fun h2 => br_nd h1 (br_nd h2 ?_)))
      refine br_dec (by rw [hk]; exact Nat.le_refl _) (br_b (by rw [tk]; exact gC_one (fun _ => rfl) _) (br_dec (by omega) ⟨⟨⟨prefL :: l, m⟩, l, []⟩, hp, by simp only [List.length_cons]; omega, rfl, enB_pl _, rfl, rfl, rfl, rfl, rfl, rfl, ?_, enB_pl _, fun side => br_side (fun _ _ => ⟨rfl, enB_pl _⟩) (fun _ h => h.elim) side⟩))
      simp only
      rw [tk, List.nil_append, gC_cons]; rfl
    | true =>
      refine con_vc (E := EtR) mixed (calls_envT tR_ok) (lok_envT _ _) (M := mF1) (lm_one F1_piece) (R_vc3 m l) ?_
      simp only [ofNat_eq, toNat_cast, Nat.zero_add, Nat.add_zero, Nat.mul_one, List.drop_zero, bCells_len, bCells_drop, bCells_take, bCells_app, bCells_one, bCells_plain, List.length_replicate, List.length_append, List.length_take, List.length_drop, List.take_length, and_true, true_and, and_self, decide_true, List.length_nil, List.length_cons, Nat.sub_zero, dB_mk, dB_ro, List.take_zero]
      refine br_if (fun h => br_dec h (enB_pl _)) (fun h1 => br_if (fun h => br_nd h1 (br_dec h (enB_pl _))) (fun h2 => br_nd h1 (br_nd h2 ?_)))
      refine br_dec (by rw [hk]; exact Nat.le_refl _) (br_b (by rw [tk]; exact gC_one (fun _ => rfl) _) (br_dec (by omega) ⟨⟨⟨prefL :: l, m⟩, l, prefL⟩, hp, by simp only [List.length_cons]; omega, rfl, enB_pl _, rfl, rfl, rfl, rfl, rfl, rfl, ?_, enB_pl _, fun side => br_side (fun _ _ => ⟨rfl, enB_pl _⟩) (fun _ h => h.elim) side⟩))
      simp only
      rw [tk, List.nil_append, gC_cons]; rfl
theorem gp_of {Q : Nat → Prop} {M : List (List Value)} (hL : ∀ c ∈ M, GCells Q [.sl 22 5 [.i .u8]] c) (hQ : ∀ n, Q n → n ≤ 1048576 := by intro n h; exact h) :
    ∃ a : List (List UInt8), a.length = M.length ∧ M.flatten = gC enB a ∧ ∀ x ∈ a, x.length ≤ 1048576 := by
  induction M with
  | nil => exact ⟨[], rfl, rfl, fun x hx => by simp at hx⟩
  | cons c M ih =>
    obtain ⟨a, h1, h2, h3⟩ := ih (fun d hd => hL d (List.mem_cons_of_mem _ hd))
    have hc := hL c (List.mem_cons_self ..)
    match c, hc with
    | [v], hc =>
      obtain ⟨f3, _⟩ := hc
      obtain ⟨n, cells, rfl, hel, hm, hq⟩ := f3
      obtain ⟨p, hl, rfl⟩ := elems_bytes hel.elems
      subst hl
      refine ⟨p :: a, by rw [List.length_cons, List.length_cons, h1], by rw [List.flatten_cons, h2, gC_cons]; rfl, ?_⟩
      intro x hx
      rcases List.mem_cons.1 hx with rfl | hx
      · exact hQ _ hq
      · exact h3 x hx
end Go.Proofs.Ytkeiogmapogpnaa.fe
