/- FrameParts: however bytes are parted, the frames and the error are the same. -/
import Derived.Test.YtkeiogmapogpnaaSz9
import Derived.Test.YtkeiogmapogpnaaRows
import Derived.Test.YtkeiogmapogpnaaLfm
import Derived.Test.YtkeiogmapogpnaaLints
set_option linter.unusedSimpArgs false
set_option linter.unusedVariables false
namespace Go.Proofs.Ytkeiogmapogpnaa.fe
open Go Go.Ev Go.Sy Go.RowKit Go.Proofs.Ytkeiogmapogpnaa.s9 Go.Proofs.Ytkeiogmapogpnaa.fd Go.Proofs.Ytkeiogmapogpnaa.gl Go.Proofs.Ytkeiogmapogpnaa.ic
def pA : List Nat := [0,1,0,1,1,1,1,1,1,1,1,1]
structure Ga where
  b : List UInt8
  n : Nat
  c : List Int
  wx : List UInt8
  wk : Nat
  wn : Nat
  w1 : Int
  w2 : Int
  wl : List Bf
structure Sa where
  i : Nat
  fr : Nat
  x : List UInt8
  k : Nat
  n : Nat
  s1 : Int
  s2 : Int
  l : List Bf
def slA (g : Ga) (s : Sa) : List (Nat × Value) := [(0, slc 0 g.n), (1, slc 1 g.c.length), (5, .pointer (some ⟨2, 0, none⟩)), (7, .pointer (some ⟨3, 0, none⟩)), (9, slc4 6 g.wl.length), (10, .pointer (some ⟨7, 0, none⟩)), (11, slc4 11 s.l.length), (12, .pointer (some ⟨8, 0, none⟩)), (13, .int .i64 (s.fr : Nat)), (14, .int .i64 (s.i : Nat))]
noncomputable def rlA (g : Ga) (s : Sa) : List (Nat × Row) :=
  [(0, bRo g.b), (1, iRo .i64 g.c), (2, rdU 5 g.wk g.wn 16384 g.w1 g.w2), (3, rdU 10 s.k s.n 16384 s.s1 s.s2), (5, bOwn g.wx), (6, gOwn enG g.wl), (7, badR g.w1 g.w2 0), (8, badR s.s1 s.s2 0), (10, bOwn s.x), (11, gOwn enG s.l)]
def Ga.x (g : Ga) : List UInt8 := g.b.take g.n
def IsS (s : Sa) (r : Rd) : Prop := s.x = r.x ∧ s.k = r.k ∧ s.n = r.x.length - r.k ∧ s.s1 = scB r.bad ∧ s.s2 = coB r.bad
def InvA (g : Ga) (s : Sa) : Prop := s.i ≤ g.c.length ∧ s.fr ≤ g.n ∧ ∃ r, IsS s r ∧ Fed 16384 (g.x.take s.fr) r s.l
noncomputable def wsA (g : Ga) : List (Gate Sa) := [⟨.exit 0, fun s => InvA g s, fun s => [(0, slc 0 g.n), (5, .pointer (some ⟨2, 0, none⟩)), (7, .pointer (some ⟨3, 0, none⟩)), (9, slc4 6 g.wl.length), (10, .pointer (some ⟨7, 0, none⟩)), (11, slc4 11 s.l.length), (12, .pointer (some ⟨8, 0, none⟩)), (13, .int .i64 (s.fr : Nat))], fun s => rlA g s, 12⟩]
def GaOk (g : Ga) : Prop := g.n ≤ g.b.length ∧ g.n ≤ 800 ∧ ∀ x ∈ g.c, (Lit.int .i64 x).wf = true
def s0 : Sa := ⟨0, 0, [], 0, 0, 0, 0, []⟩
noncomputable def specA : Sy.Spec := specOf 2 12 116 GaOk (fun g => slA g s0) (fun g => rlA g s0) wsA
noncomputable def mA := mOf [(6, pA, specA)]
noncomputable def tA : List EntM := [eWiF, eRunF, eFeed, eSameF]
noncomputable abbrev EtA : Env := envT Try.prog tA
theorem A_round (g : Ga) (s : Sa) (Inv : Sa → Prop) (q : Sa → Nat) : mev EtA noM 60 6 (0 :: pA) false (codeOf Try.prog 6 (0 :: pA)) ⟨mkOv (slA g s), 116, []⟩ none ⟨mkR (rlA g s), 12⟩ (roundK 2 12 116 Inv q (slA g) (rlA g) (wsA g) s) =
  (br (decide ((↑s.1 : Int) < Int.ofNat (List.length g.3))) (br (decide ((↑s.1 : Int) < (40 : Int))) (br (decide ((0 : Int) <= (↑s.1 : Int) /\ (↑s.1 : Int) < (↑(List.length
  g.3) : Int))) ((Eq (α := Option Value) ((iCells IntKind.i64 g.3)[0 + Int.toNat (↑s.1 : Int) * 1]?) (some (Value.int IntKind.i64 (cellI (iCells IntKind.i64 g.3) (0 +
  Int.toNat (↑s.1 : Int) * 1))))) /\ ((((True /\ (True /\ (True /\ True))) /\ (True /\ (True /\ (I64 (cellI (iCells IntKind.i64 g.3) (0 + Int.toNat (↑s.1 : Int) * 1)) /\
  ((-1000000000000 : Int) <= (↑s.2 : Int) /\ (Int.ofNat g.2 <= (1000000000000 : Int) /\ (↑s.2 : Int) <= Int.ofNat g.2))))))) /\ (br (decide ((0 : Int) <= (↑s.2 : Int) /\
  (↑s.2 : Int) <= tk.inside (cellI (iCells IntKind.i64 g.3) (0 + Int.toNat (↑s.1 : Int) * 1)) (↑s.2 : Int) (Int.ofNat g.2) /\ tk.inside (cellI (iCells IntKind.i64 g.3) (0 +
  Int.toNat (↑s.1 : Int) * 1)) (↑s.2 : Int) (Int.ofNat g.2) <= (↑g.2 : Int))) ((((True /\ ((0 + Int.toNat (↑s.2 : Int) * 1 + (Int.toNat (tk.inside (cellI (iCells IntKind.i64
  g.3) (0 + Int.toNat (↑s.1 : Int) * 1)) (↑s.2 : Int) (Int.ofNat g.2)) - Int.toNat (↑s.2 : Int)) * 1 <= List.length (bCells g.1) /\ Plain (List.take ((Int.toNat (tk.inside
  (cellI (iCells IntKind.i64 g.3) (0 + Int.toNat (↑s.1 : Int) * 1)) (↑s.2 : Int) (Int.ofNat g.2)) - Int.toNat (↑s.2 : Int)) * 1) (List.drop (0 + Int.toNat (↑s.2 : Int) * 1)
  (bCells g.1)))) /\ True)) /\ (((True /\ (True /\ (True /\ (True /\ (True /\ (True /\ True)))))) /\ (True /\ (Plain (bCells s.3) /\ True))) /\ ((Plain (bCells (zX (Row.mk
  (bCells s.3) false (Ob.cells true)) s.4 (16384 : Int) s.6 (Row.mk (List.take ((Int.toNat (tk.inside (cellI (iCells IntKind.i64 g.3) (0 + Int.toNat (↑s.1 : Int) * 1)) (↑s.2
  : Int) (Int.ofNat g.2)) - Int.toNat (↑s.2 : Int)) * 1) (List.drop (0 + Int.toNat (↑s.2 : Int) * 1) (bCells g.1))) true (Ob.cells true)))) /\ (Plain (gC enG (zL (Row.mk
  (bCells s.3) false (Ob.cells true)) s.4 (16384 : Int) s.6 (Row.mk (List.take ((Int.toNat (tk.inside (cellI (iCells IntKind.i64 g.3) (0 + Int.toNat (↑s.1 : Int) * 1)) (↑s.2
  : Int) (Int.ofNat g.2)) - Int.toNat (↑s.2 : Int)) * 1) (List.drop (0 + Int.toNat (↑s.2 : Int) * 1) (bCells g.1))) true (Ob.cells true)))) /\ True)) /\ (ByteArray.mk #[] =
  ByteArray.mk #[] /\ IsR (Row.mk (bCells s.3) false (Ob.cells true)) s.4 s.5 s.6 s.7 (Row.mk (List.take ((Int.toNat (tk.inside (cellI (iCells IntKind.i64 g.3) (0 +
  Int.toNat (↑s.1 : Int) * 1)) (↑s.2 : Int) (Int.ofNat g.2)) - Int.toNat (↑s.2 : Int)) * 1) (List.drop (0 + Int.toNat (↑s.2 : Int) * 1) (bCells g.1))) true (Ob.cells true))
  (Int.toNat (tk.inside (cellI (iCells IntKind.i64 g.3) (0 + Int.toNat (↑s.1 : Int) * 1)) (↑s.2 : Int) (Int.ofNat g.2)) - Int.toNat (↑s.2 : Int))))))) /\ (br (decide (0 + zM
  (Row.mk (bCells s.3) false (Ob.cells true)) s.4 (16384 : Int) s.6 (Row.mk (List.take ((Int.toNat (tk.inside (cellI (iCells IntKind.i64 g.3) (0 + Int.toNat (↑s.1 : Int) *
  1)) (↑s.2 : Int) (Int.ofNat g.2)) - Int.toNat (↑s.2 : Int)) * 1) (List.drop (0 + Int.toNat (↑s.2 : Int) * 1) (bCells g.1))) true (Ob.cells true)) * 4 <= List.length (gC
  enG (zL (Row.mk (bCells s.3) false (Ob.cells true)) s.4 (16384 : Int) s.6 (Row.mk (List.take ((Int.toNat (tk.inside (cellI (iCells IntKind.i64 g.3) (0 + Int.toNat (↑s.1 :
  Int) * 1)) (↑s.2 : Int) (Int.ofNat g.2)) - Int.toNat (↑s.2 : Int)) * 1) (List.drop (0 + Int.toNat (↑s.2 : Int) * 1) (bCells g.1))) true (Ob.cells true)))))) (br (allOne
  (List.take (zM (Row.mk (bCells s.3) false (Ob.cells true)) s.4 (16384 : Int) s.6 (Row.mk (List.take ((Int.toNat (tk.inside (cellI (iCells IntKind.i64 g.3) (0 + Int.toNat
  (↑s.1 : Int) * 1)) (↑s.2 : Int) (Int.ofNat g.2)) - Int.toNat (↑s.2 : Int)) * 1) (List.drop (0 + Int.toNat (↑s.2 : Int) * 1) (bCells g.1))) true (Ob.cells true)) * 4)
  (List.drop 0 (gC enG (zL (Row.mk (bCells s.3) false (Ob.cells true)) s.4 (16384 : Int) s.6 (Row.mk (List.take ((Int.toNat (tk.inside (cellI (iCells IntKind.i64 g.3) (0 +
  Int.toNat (↑s.1 : Int) * 1)) (↑s.2 : Int) (Int.ofNat g.2)) - Int.toNat (↑s.2 : Int)) * 1) (List.drop (0 + Int.toNat (↑s.2 : Int) * 1) (bCells g.1))) true (Ob.cells
  true))))))) (br (decide (List.length s.8 + zM (Row.mk (bCells s.3) false (Ob.cells true)) s.4 (16384 : Int) s.6 (Row.mk (List.take ((Int.toNat (tk.inside (cellI (iCells
  IntKind.i64 g.3) (0 + Int.toNat (↑s.1 : Int) * 1)) (↑s.2 : Int) (Int.ofNat g.2)) - Int.toNat (↑s.2 : Int)) * 1) (List.drop (0 + Int.toNat (↑s.2 : Int) * 1) (bCells g.1)))
  true (Ob.cells true)) <= 16777216)) (br (decide (0 < List.length s.8 + zM (Row.mk (bCells s.3) false (Ob.cells true)) s.4 (16384 : Int) s.6 (Row.mk (List.take ((Int.toNat
  (tk.inside (cellI (iCells IntKind.i64 g.3) (0 + Int.toNat (↑s.1 : Int) * 1)) (↑s.2 : Int) (Int.ofNat g.2)) - Int.toNat (↑s.2 : Int)) * 1) (List.drop (0 + Int.toNat (↑s.2 :
  Int) * 1) (bCells g.1))) true (Ob.cells true)) ∨ List.length (gC enG s.8) = 0)) (br (decide (0 + List.length s.8 * 4 <= List.length (gC enG s.8))) ((Value.agg (Array.mk
  [Value.int IntKind.i64 (zB (Row.mk (bCells s.3) false (Ob.cells true)) s.4 (16384 : Int) s.6 (Row.mk (List.take ((Int.toNat (tk.inside (cellI (iCells IntKind.i64 g.3) (0 +
  Int.toNat (↑s.1 : Int) * 1)) (↑s.2 : Int) (Int.ofNat g.2)) - Int.toNat (↑s.2 : Int)) * 1) (List.drop (0 + Int.toNat (↑s.2 : Int) * 1) (bCells g.1))) true (Ob.cells
  true))), Value.int IntKind.i64 (zC (Row.mk (bCells s.3) false (Ob.cells true)) s.4 (16384 : Int) s.6 (Row.mk (List.take ((Int.toNat (tk.inside (cellI (iCells IntKind.i64
  g.3) (0 + Int.toNat (↑s.1 : Int) * 1)) (↑s.2 : Int) (Int.ofNat g.2)) - Int.toNat (↑s.2 : Int)) * 1) (List.drop (0 + Int.toNat (↑s.2 : Int) * 1) (bCells g.1))) true
  (Ob.cells true))), Value.int IntKind.i64 (0 : Int)]) = Value.agg (Array.mk [Value.int IntKind.i64 (zB (Row.mk (bCells s.3) false (Ob.cells true)) s.4 (16384 : Int) s.6
  (Row.mk (List.take ((Int.toNat (tk.inside (cellI (iCells IntKind.i64 g.3) (0 + Int.toNat (↑s.1 : Int) * 1)) (↑s.2 : Int) (Int.ofNat g.2)) - Int.toNat (↑s.2 : Int)) * 1)
  (List.drop (0 + Int.toNat (↑s.2 : Int) * 1) (bCells g.1))) true (Ob.cells true))), Value.int IntKind.i64 (zC (Row.mk (bCells s.3) false (Ob.cells true)) s.4 (16384 : Int)
  s.6 (Row.mk (List.take ((Int.toNat (tk.inside (cellI (iCells IntKind.i64 g.3) (0 + Int.toNat (↑s.1 : Int) * 1)) (↑s.2 : Int) (Int.ofNat g.2)) - Int.toNat (↑s.2 : Int)) *
  1) (List.drop (0 + Int.toNat (↑s.2 : Int) * 1) (bCells g.1))) true (Ob.cells true))), Value.int IntKind.i64 (0 : Int)])) /\ ((Value.agg (Array.mk [Value.int IntKind.i64
  (zB (Row.mk (bCells s.3) false (Ob.cells true)) s.4 (16384 : Int) s.6 (Row.mk (List.take ((Int.toNat (tk.inside (cellI (iCells IntKind.i64 g.3) (0 + Int.toNat (↑s.1 : Int)
  * 1)) (↑s.2 : Int) (Int.ofNat g.2)) - Int.toNat (↑s.2 : Int)) * 1) (List.drop (0 + Int.toNat (↑s.2 : Int) * 1) (bCells g.1))) true (Ob.cells true))), Value.int IntKind.i64
  (zC (Row.mk (bCells s.3) false (Ob.cells true)) s.4 (16384 : Int) s.6 (Row.mk (List.take ((Int.toNat (tk.inside (cellI (iCells IntKind.i64 g.3) (0 + Int.toNat (↑s.1 : Int)
  * 1)) (↑s.2 : Int) (Int.ofNat g.2)) - Int.toNat (↑s.2 : Int)) * 1) (List.drop (0 + Int.toNat (↑s.2 : Int) * 1) (bCells g.1))) true (Ob.cells true))), Value.int IntKind.i64
  (0 : Int)]) = Value.agg (Array.mk [Value.int IntKind.i64 (zB (Row.mk (bCells s.3) false (Ob.cells true)) s.4 (16384 : Int) s.6 (Row.mk (List.take ((Int.toNat (tk.inside
  (cellI (iCells IntKind.i64 g.3) (0 + Int.toNat (↑s.1 : Int) * 1)) (↑s.2 : Int) (Int.ofNat g.2)) - Int.toNat (↑s.2 : Int)) * 1) (List.drop (0 + Int.toNat (↑s.2 : Int) * 1)
  (bCells g.1))) true (Ob.cells true))), Value.int IntKind.i64 (zC (Row.mk (bCells s.3) false (Ob.cells true)) s.4 (16384 : Int) s.6 (Row.mk (List.take ((Int.toNat
  (tk.inside (cellI (iCells IntKind.i64 g.3) (0 + Int.toNat (↑s.1 : Int) * 1)) (↑s.2 : Int) (Int.ofNat g.2)) - Int.toNat (↑s.2 : Int)) * 1) (List.drop (0 + Int.toNat (↑s.2 :
  Int) * 1) (bCells g.1))) true (Ob.cells true))), Value.int IntKind.i64 (0 : Int)])) /\ (∃ j : Sa, ((Inv j) /\ ((q j < q s) /\ ((0 = 0) /\ ((g.2 = g.2) /\ ((0 = 0) /\
  ((List.length g.3 = List.length g.3) /\ ((0 = 0) /\ ((0 = 0) /\ ((0 = 0) /\ ((List.length g.9 = List.length g.9) /\ ((0 = 0) /\ ((0 = 0) /\ ((List.length j.8 = List.length
  s.8 + zM (Row.mk (bCells s.3) false (Ob.cells true)) s.4 (16384 : Int) s.6 (Row.mk (List.take ((Int.toNat (tk.inside (cellI (iCells IntKind.i64 g.3) (0 + Int.toNat (↑s.1 :
  Int) * 1)) (↑s.2 : Int) (Int.ofNat g.2)) - Int.toNat (↑s.2 : Int)) * 1) (List.drop (0 + Int.toNat (↑s.2 : Int) * 1) (bCells g.1))) true (Ob.cells true))) /\ ((0 = 0) /\
  (((↑j.2 : Int) = tk.inside (cellI (iCells IntKind.i64 g.3) (0 + Int.toNat (↑s.1 : Int) * 1)) (↑s.2 : Int) (Int.ofNat g.2)) /\ (((↑j.1 : Int) = IntKind.wrap IntKind.i64
  ((↑s.1 : Int) + (1 : Int))) /\ ((Eq (α := List Value) (bCells g.1) (bCells g.1)) /\ ((Plain (bCells g.1)) /\ ((Eq (α := List Value) (iCells IntKind.i64 g.3) (iCells
  IntKind.i64 g.3)) /\ ((Plain (iCells IntKind.i64 g.3)) /\ ((g.5 = g.5) /\ ((g.6 = g.6) /\ (((16384 : Int) = (16384 : Int)) /\ ((ByteArray.mk #[] = ByteArray.mk #[]) /\
  ((g.7 = g.7) /\ ((g.8 = g.8) /\ (((0 : Int) = (0 : Int)) /\ ((j.4 = 0 + zK (Row.mk (bCells s.3) false (Ob.cells true)) s.4 (16384 : Int) s.6 (Row.mk (List.take ((Int.toNat
  (tk.inside (cellI (iCells IntKind.i64 g.3) (0 + Int.toNat (↑s.1 : Int) * 1)) (↑s.2 : Int) (Int.ofNat g.2)) - Int.toNat (↑s.2 : Int)) * 1) (List.drop (0 + Int.toNat (↑s.2 :
  Int) * 1) (bCells g.1))) true (Ob.cells true))) /\ ((j.5 = zN (Row.mk (bCells s.3) false (Ob.cells true)) s.4 (16384 : Int) s.6 (Row.mk (List.take ((Int.toNat (tk.inside
  (cellI (iCells IntKind.i64 g.3) (0 + Int.toNat (↑s.1 : Int) * 1)) (↑s.2 : Int) (Int.ofNat g.2)) - Int.toNat (↑s.2 : Int)) * 1) (List.drop (0 + Int.toNat (↑s.2 : Int) * 1)
  (bCells g.1))) true (Ob.cells true))) /\ (((16384 : Int) = (16384 : Int)) /\ ((ByteArray.mk #[] = ByteArray.mk #[]) /\ ((j.6 = zB (Row.mk (bCells s.3) false (Ob.cells
  true)) s.4 (16384 : Int) s.6 (Row.mk (List.take ((Int.toNat (tk.inside (cellI (iCells IntKind.i64 g.3) (0 + Int.toNat (↑s.1 : Int) * 1)) (↑s.2 : Int) (Int.ofNat g.2)) -
  Int.toNat (↑s.2 : Int)) * 1) (List.drop (0 + Int.toNat (↑s.2 : Int) * 1) (bCells g.1))) true (Ob.cells true))) /\ ((j.7 = zC (Row.mk (bCells s.3) false (Ob.cells true))
  s.4 (16384 : Int) s.6 (Row.mk (List.take ((Int.toNat (tk.inside (cellI (iCells IntKind.i64 g.3) (0 + Int.toNat (↑s.1 : Int) * 1)) (↑s.2 : Int) (Int.ofNat g.2)) - Int.toNat
  (↑s.2 : Int)) * 1) (List.drop (0 + Int.toNat (↑s.2 : Int) * 1) (bCells g.1))) true (Ob.cells true))) /\ (((0 : Int) = (0 : Int)) /\ ((Eq (α := List Value) (bCells g.4)
  (bCells g.4)) /\ ((Plain (bCells g.4)) /\ ((Eq (α := List Value) (gC enG g.9) (gC enG g.9)) /\ ((Plain (gC enG g.9)) /\ ((g.7 = g.7) /\ ((g.8 = g.8) /\ (((0 : Int) = (0 :
  Int)) /\ ((j.6 = zB (Row.mk (bCells s.3) false (Ob.cells true)) s.4 (16384 : Int) s.6 (Row.mk (List.take ((Int.toNat (tk.inside (cellI (iCells IntKind.i64 g.3) (0 +
  Int.toNat (↑s.1 : Int) * 1)) (↑s.2 : Int) (Int.ofNat g.2)) - Int.toNat (↑s.2 : Int)) * 1) (List.drop (0 + Int.toNat (↑s.2 : Int) * 1) (bCells g.1))) true (Ob.cells true)))
  /\ ((j.7 = zC (Row.mk (bCells s.3) false (Ob.cells true)) s.4 (16384 : Int) s.6 (Row.mk (List.take ((Int.toNat (tk.inside (cellI (iCells IntKind.i64 g.3) (0 + Int.toNat
  (↑s.1 : Int) * 1)) (↑s.2 : Int) (Int.ofNat g.2)) - Int.toNat (↑s.2 : Int)) * 1) (List.drop (0 + Int.toNat (↑s.2 : Int) * 1) (bCells g.1))) true (Ob.cells true))) /\ (((0 :
  Int) = (0 : Int)) /\ ((Eq (α := List Value) (bCells j.3) (bCells (zX (Row.mk (bCells s.3) false (Ob.cells true)) s.4 (16384 : Int) s.6 (Row.mk (List.take ((Int.toNat
  (tk.inside (cellI (iCells IntKind.i64 g.3) (0 + Int.toNat (↑s.1 : Int) * 1)) (↑s.2 : Int) (Int.ofNat g.2)) - Int.toNat (↑s.2 : Int)) * 1) (List.drop (0 + Int.toNat (↑s.2 :
  Int) * 1) (bCells g.1))) true (Ob.cells true))))) /\ ((Plain (bCells j.3)) /\ ((Eq (α := List Value) (gC enG j.8) (List.take (List.length s.8 * 4) (List.drop 0 (gC enG
  s.8)) ++ List.take (zM (Row.mk (bCells s.3) false (Ob.cells true)) s.4 (16384 : Int) s.6 (Row.mk (List.take ((Int.toNat (tk.inside (cellI (iCells IntKind.i64 g.3) (0 +
  Int.toNat (↑s.1 : Int) * 1)) (↑s.2 : Int) (Int.ofNat g.2)) - Int.toNat (↑s.2 : Int)) * 1) (List.drop (0 + Int.toNat (↑s.2 : Int) * 1) (bCells g.1))) true (Ob.cells true))
  * 4) (List.drop 0 (gC enG (zL (Row.mk (bCells s.3) false (Ob.cells true)) s.4 (16384 : Int) s.6 (Row.mk (List.take ((Int.toNat (tk.inside (cellI (iCells IntKind.i64 g.3)
  (0 + Int.toNat (↑s.1 : Int) * 1)) (↑s.2 : Int) (Int.ofNat g.2)) - Int.toNat (↑s.2 : Int)) * 1) (List.drop (0 + Int.toNat (↑s.2 : Int) * 1) (bCells g.1))) true (Ob.cells
  true))))))) /\ ((Plain (gC enG j.8)) /\ True))))))))))))))))))))))))))))))))))))))))))))))))))) False) ((Value.agg (Array.mk [Value.int IntKind.i64 (zB (Row.mk (bCells
  s.3) false (Ob.cells true)) s.4 (16384 : Int) s.6 (Row.mk (List.take ((Int.toNat (tk.inside (cellI (iCells IntKind.i64 g.3) (0 + Int.toNat (↑s.1 : Int) * 1)) (↑s.2 : Int)
  (Int.ofNat g.2)) - Int.toNat (↑s.2 : Int)) * 1) (List.drop (0 + Int.toNat (↑s.2 : Int) * 1) (bCells g.1))) true (Ob.cells true))), Value.int IntKind.i64 (zC (Row.mk
  (bCells s.3) false (Ob.cells true)) s.4 (16384 : Int) s.6 (Row.mk (List.take ((Int.toNat (tk.inside (cellI (iCells IntKind.i64 g.3) (0 + Int.toNat (↑s.1 : Int) * 1)) (↑s.2
  : Int) (Int.ofNat g.2)) - Int.toNat (↑s.2 : Int)) * 1) (List.drop (0 + Int.toNat (↑s.2 : Int) * 1) (bCells g.1))) true (Ob.cells true))), Value.int IntKind.i64 (0 : Int)])
  = Value.agg (Array.mk [Value.int IntKind.i64 (zB (Row.mk (bCells s.3) false (Ob.cells true)) s.4 (16384 : Int) s.6 (Row.mk (List.take ((Int.toNat (tk.inside (cellI (iCells
  IntKind.i64 g.3) (0 + Int.toNat (↑s.1 : Int) * 1)) (↑s.2 : Int) (Int.ofNat g.2)) - Int.toNat (↑s.2 : Int)) * 1) (List.drop (0 + Int.toNat (↑s.2 : Int) * 1) (bCells g.1)))
  true (Ob.cells true))), Value.int IntKind.i64 (zC (Row.mk (bCells s.3) false (Ob.cells true)) s.4 (16384 : Int) s.6 (Row.mk (List.take ((Int.toNat (tk.inside (cellI
  (iCells IntKind.i64 g.3) (0 + Int.toNat (↑s.1 : Int) * 1)) (↑s.2 : Int) (Int.ofNat g.2)) - Int.toNat (↑s.2 : Int)) * 1) (List.drop (0 + Int.toNat (↑s.2 : Int) * 1) (bCells
  g.1))) true (Ob.cells true))), Value.int IntKind.i64 (0 : Int)])) /\ ((Value.agg (Array.mk [Value.int IntKind.i64 (zB (Row.mk (bCells s.3) false (Ob.cells true)) s.4
  (16384 : Int) s.6 (Row.mk (List.take ((Int.toNat (tk.inside (cellI (iCells IntKind.i64 g.3) (0 + Int.toNat (↑s.1 : Int) * 1)) (↑s.2 : Int) (Int.ofNat g.2)) - Int.toNat
  (↑s.2 : Int)) * 1) (List.drop (0 + Int.toNat (↑s.2 : Int) * 1) (bCells g.1))) true (Ob.cells true))), Value.int IntKind.i64 (zC (Row.mk (bCells s.3) false (Ob.cells true))
  s.4 (16384 : Int) s.6 (Row.mk (List.take ((Int.toNat (tk.inside (cellI (iCells IntKind.i64 g.3) (0 + Int.toNat (↑s.1 : Int) * 1)) (↑s.2 : Int) (Int.ofNat g.2)) - Int.toNat
  (↑s.2 : Int)) * 1) (List.drop (0 + Int.toNat (↑s.2 : Int) * 1) (bCells g.1))) true (Ob.cells true))), Value.int IntKind.i64 (0 : Int)]) = Value.agg (Array.mk [Value.int
  IntKind.i64 (zB (Row.mk (bCells s.3) false (Ob.cells true)) s.4 (16384 : Int) s.6 (Row.mk (List.take ((Int.toNat (tk.inside (cellI (iCells IntKind.i64 g.3) (0 + Int.toNat
  (↑s.1 : Int) * 1)) (↑s.2 : Int) (Int.ofNat g.2)) - Int.toNat (↑s.2 : Int)) * 1) (List.drop (0 + Int.toNat (↑s.2 : Int) * 1) (bCells g.1))) true (Ob.cells true))),
  Value.int IntKind.i64 (zC (Row.mk (bCells s.3) false (Ob.cells true)) s.4 (16384 : Int) s.6 (Row.mk (List.take ((Int.toNat (tk.inside (cellI (iCells IntKind.i64 g.3) (0 +
  Int.toNat (↑s.1 : Int) * 1)) (↑s.2 : Int) (Int.ofNat g.2)) - Int.toNat (↑s.2 : Int)) * 1) (List.drop (0 + Int.toNat (↑s.2 : Int) * 1) (bCells g.1))) true (Ob.cells
  true))), Value.int IntKind.i64 (0 : Int)])) /\ (∃ j : Sa, ((Inv j) /\ ((q j < q s) /\ ((0 = 0) /\ ((g.2 = g.2) /\ ((0 = 0) /\ ((List.length g.3 = List.length g.3) /\ ((0 =
  0) /\ ((0 = 0) /\ ((0 = 0) /\ ((List.length g.9 = List.length g.9) /\ ((0 = 0) /\ ((0 = 0) /\ ((List.length j.8 = List.length s.8) /\ ((0 = 0) /\ (((↑j.2 : Int) =
  tk.inside (cellI (iCells IntKind.i64 g.3) (0 + Int.toNat (↑s.1 : Int) * 1)) (↑s.2 : Int) (Int.ofNat g.2)) /\ (((↑j.1 : Int) = IntKind.wrap IntKind.i64 ((↑s.1 : Int) + (1 :
  Int))) /\ ((Eq (α := List Value) (bCells g.1) (bCells g.1)) /\ ((Plain (bCells g.1)) /\ ((Eq (α := List Value) (iCells IntKind.i64 g.3) (iCells IntKind.i64 g.3)) /\
  ((Plain (iCells IntKind.i64 g.3)) /\ ((g.5 = g.5) /\ ((g.6 = g.6) /\ (((16384 : Int) = (16384 : Int)) /\ ((ByteArray.mk #[] = ByteArray.mk #[]) /\ ((g.7 = g.7) /\ ((g.8 =
  g.8) /\ (((0 : Int) = (0 : Int)) /\ ((j.4 = 0 + zK (Row.mk (bCells s.3) false (Ob.cells true)) s.4 (16384 : Int) s.6 (Row.mk (List.take ((Int.toNat (tk.inside (cellI
  (iCells IntKind.i64 g.3) (0 + Int.toNat (↑s.1 : Int) * 1)) (↑s.2 : Int) (Int.ofNat g.2)) - Int.toNat (↑s.2 : Int)) * 1) (List.drop (0 + Int.toNat (↑s.2 : Int) * 1) (bCells
  g.1))) true (Ob.cells true))) /\ ((j.5 = zN (Row.mk (bCells s.3) false (Ob.cells true)) s.4 (16384 : Int) s.6 (Row.mk (List.take ((Int.toNat (tk.inside (cellI (iCells
  IntKind.i64 g.3) (0 + Int.toNat (↑s.1 : Int) * 1)) (↑s.2 : Int) (Int.ofNat g.2)) - Int.toNat (↑s.2 : Int)) * 1) (List.drop (0 + Int.toNat (↑s.2 : Int) * 1) (bCells g.1)))
  true (Ob.cells true))) /\ (((16384 : Int) = (16384 : Int)) /\ ((ByteArray.mk #[] = ByteArray.mk #[]) /\ ((j.6 = zB (Row.mk (bCells s.3) false (Ob.cells true)) s.4 (16384 :
  Int) s.6 (Row.mk (List.take ((Int.toNat (tk.inside (cellI (iCells IntKind.i64 g.3) (0 + Int.toNat (↑s.1 : Int) * 1)) (↑s.2 : Int) (Int.ofNat g.2)) - Int.toNat (↑s.2 :
  Int)) * 1) (List.drop (0 + Int.toNat (↑s.2 : Int) * 1) (bCells g.1))) true (Ob.cells true))) /\ ((j.7 = zC (Row.mk (bCells s.3) false (Ob.cells true)) s.4 (16384 : Int)
  s.6 (Row.mk (List.take ((Int.toNat (tk.inside (cellI (iCells IntKind.i64 g.3) (0 + Int.toNat (↑s.1 : Int) * 1)) (↑s.2 : Int) (Int.ofNat g.2)) - Int.toNat (↑s.2 : Int)) *
  1) (List.drop (0 + Int.toNat (↑s.2 : Int) * 1) (bCells g.1))) true (Ob.cells true))) /\ (((0 : Int) = (0 : Int)) /\ ((Eq (α := List Value) (bCells g.4) (bCells g.4)) /\
  ((Plain (bCells g.4)) /\ ((Eq (α := List Value) (gC enG g.9) (gC enG g.9)) /\ ((Plain (gC enG g.9)) /\ ((g.7 = g.7) /\ ((g.8 = g.8) /\ (((0 : Int) = (0 : Int)) /\ ((j.6 =
  zB (Row.mk (bCells s.3) false (Ob.cells true)) s.4 (16384 : Int) s.6 (Row.mk (List.take ((Int.toNat (tk.inside (cellI (iCells IntKind.i64 g.3) (0 + Int.toNat (↑s.1 : Int)
  * 1)) (↑s.2 : Int) (Int.ofNat g.2)) - Int.toNat (↑s.2 : Int)) * 1) (List.drop (0 + Int.toNat (↑s.2 : Int) * 1) (bCells g.1))) true (Ob.cells true))) /\ ((j.7 = zC (Row.mk
  (bCells s.3) false (Ob.cells true)) s.4 (16384 : Int) s.6 (Row.mk (List.take ((Int.toNat (tk.inside (cellI (iCells IntKind.i64 g.3) (0 + Int.toNat (↑s.1 : Int) * 1)) (↑s.2
  : Int) (Int.ofNat g.2)) - Int.toNat (↑s.2 : Int)) * 1) (List.drop (0 + Int.toNat (↑s.2 : Int) * 1) (bCells g.1))) true (Ob.cells true))) /\ (((0 : Int) = (0 : Int)) /\
  ((Eq (α := List Value) (bCells j.3) (bCells (zX (Row.mk (bCells s.3) false (Ob.cells true)) s.4 (16384 : Int) s.6 (Row.mk (List.take ((Int.toNat (tk.inside (cellI (iCells
  IntKind.i64 g.3) (0 + Int.toNat (↑s.1 : Int) * 1)) (↑s.2 : Int) (Int.ofNat g.2)) - Int.toNat (↑s.2 : Int)) * 1) (List.drop (0 + Int.toNat (↑s.2 : Int) * 1) (bCells g.1)))
  true (Ob.cells true))))) /\ ((Plain (bCells j.3)) /\ ((Eq (α := List Value) (gC enG j.8) (gC enG s.8)) /\ ((Plain (gC enG j.8)) /\
  True)))))))))))))))))))))))))))))))))))))))))))))))))))) False) False) False)) False))) False) (∃ y : Sa, ((InvA g y) /\ ((0 = 0) /\ ((g.2 = g.2) /\ ((0 = 0) /\ ((0 = 0)
  /\ ((0 = 0) /\ ((List.length g.9 = List.length g.9) /\ ((0 = 0) /\ ((0 = 0) /\ ((List.length y.8 = List.length s.8) /\ ((0 = 0) /\ (((↑y.2 : Int) = (↑s.2 : Int)) /\ ((Eq
  (α := List Value) (bCells g.1) (bCells g.1)) /\ ((Plain (bCells g.1)) /\ ((Eq (α := List Value) (iCells IntKind.i64 g.3) (iCells IntKind.i64 g.3)) /\ ((Plain (iCells
  IntKind.i64 g.3)) /\ ((g.5 = g.5) /\ ((g.6 = g.6) /\ (((16384 : Int) = (16384 : Int)) /\ ((ByteArray.mk #[] = ByteArray.mk #[]) /\ ((g.7 = g.7) /\ ((g.8 = g.8) /\ (((0 :
  Int) = (0 : Int)) /\ ((y.4 = s.4) /\ ((y.5 = s.5) /\ (((16384 : Int) = (16384 : Int)) /\ ((ByteArray.mk #[] = ByteArray.mk #[]) /\ ((y.6 = s.6) /\ ((y.7 = s.7) /\ (((0 :
  Int) = (0 : Int)) /\ ((Eq (α := List Value) (bCells g.4) (bCells g.4)) /\ ((Plain (bCells g.4)) /\ ((Eq (α := List Value) (gC enG g.9) (gC enG g.9)) /\ ((Plain (gC enG
  g.9)) /\ ((g.7 = g.7) /\ ((g.8 = g.8) /\ (((0 : Int) = (0 : Int)) /\ ((y.6 = s.6) /\ ((y.7 = s.7) /\ (((0 : Int) = (0 : Int)) /\ ((Eq (α := List Value) (bCells y.3)
  (bCells s.3)) /\ ((Plain (bCells y.3)) /\ ((Eq (α := List Value) (gC enG y.8) (gC enG s.8)) /\ ((Plain (gC enG y.8)) /\ True))))))))))))))))))))))))))))))))))))))))))))))
  (∃ y : Sa, ((InvA g y) /\ ((0 = 0) /\ ((g.2 = g.2) /\ ((0 = 0) /\ ((0 = 0) /\ ((0 = 0) /\ ((List.length g.9 = List.length g.9) /\ ((0 = 0) /\ ((0 = 0) /\ ((List.length y.8
  = List.length s.8) /\ ((0 = 0) /\ (((↑y.2 : Int) = (↑s.2 : Int)) /\ ((Eq (α := List Value) (bCells g.1) (bCells g.1)) /\ ((Plain (bCells g.1)) /\ ((Eq (α := List Value)
  (iCells IntKind.i64 g.3) (iCells IntKind.i64 g.3)) /\ ((Plain (iCells IntKind.i64 g.3)) /\ ((g.5 = g.5) /\ ((g.6 = g.6) /\ (((16384 : Int) = (16384 : Int)) /\
  ((ByteArray.mk #[] = ByteArray.mk #[]) /\ ((g.7 = g.7) /\ ((g.8 = g.8) /\ (((0 : Int) = (0 : Int)) /\ ((y.4 = s.4) /\ ((y.5 = s.5) /\ (((16384 : Int) = (16384 : Int)) /\
  ((ByteArray.mk #[] = ByteArray.mk #[]) /\ ((y.6 = s.6) /\ ((y.7 = s.7) /\ (((0 : Int) = (0 : Int)) /\ ((Eq (α := List Value) (bCells g.4) (bCells g.4)) /\ ((Plain (bCells
  g.4)) /\ ((Eq (α := List Value) (gC enG g.9) (gC enG g.9)) /\ ((Plain (gC enG g.9)) /\ ((g.7 = g.7) /\ ((g.8 = g.8) /\ (((0 : Int) = (0 : Int)) /\ ((y.6 = s.6) /\ ((y.7 =
  s.7) /\ (((0 : Int) = (0 : Int)) /\ ((Eq (α := List Value) (bCells y.3) (bCells s.3)) /\ ((Plain (bCells y.3)) /\ ((Eq (α := List Value) (gC enG y.8) (gC enG s.8)) /\
  ((Plain (gC enG y.8)) /\ True)))))))))))))))))))))))))))))))))))))))))))))) := by kernel_rfl
theorem A_vc (b : List UInt8) (c : List Int) : mcall EtA mA 60 6 [slc 0 b.length, slc 1 c.length] ⟨mkR (nums 0 [bRo b, iRo .i64 c]), 2⟩ (retIs 2 (.bool true) [bRo b, iRo .i64 c]) =
  (br (decide (Int.ofNat (List.length b) > (800 : Int))) (br (decide ((0 : Int) <= (↑0 : Int) /\ (↑0 : Int) <= (800 : Int) /\ (800 : Int) <= (↑(List.length b) : Int)))
  ((((True /\ ((800 <= List.length (bCells b) /\ Plain (List.take 800 (List.drop 0 (bCells b)))) /\ True)) /\ (((True /\ (True /\ (True /\ (True /\ (True /\ (True /\
  True)))))) /\ (True /\ True)) /\ ((Plain (bCells (zX (Row.mk [] false (Ob.cells true)) 0 (16384 : Int) (0 : Int) (Row.mk (List.take 800 (List.drop 0 (bCells b))) true
  (Ob.cells true)))) /\ (Plain (gC enG (zL (Row.mk [] false (Ob.cells true)) 0 (16384 : Int) (0 : Int) (Row.mk (List.take 800 (List.drop 0 (bCells b))) true (Ob.cells
  true)))) /\ True)) /\ (ByteArray.mk #[] = ByteArray.mk #[] /\ (IsB (Row.mk (List.take 800 (List.drop 0 (bCells b))) true (Ob.cells true)) 800 /\ Int.toNat (800 : Int) -
  Int.toNat (↑0 : Int) <= 16777216)))))) /\ (∃ g : Ga, ((GaOk g) /\ ((0 = 0) /\ ((g.2 = 800) /\ ((0 = 0) /\ ((List.length g.3 = List.length c) /\ ((0 = 0) /\ ((0 = 0) /\ ((0
  = 0) /\ ((List.length g.9 = zM (Row.mk [] false (Ob.cells true)) 0 (16384 : Int) (0 : Int) (Row.mk (List.take 800 (List.drop 0 (bCells b))) true (Ob.cells true))) /\ ((0 =
  0) /\ ((0 = 0) /\ ((0 = 0) /\ (((0 : Int) = (0 : Int)) /\ (((0 : Int) = (0 : Int)) /\ ((Eq (α := List Value) (bCells g.1) (bCells b)) /\ ((Plain (bCells g.1)) /\ ((Eq (α
  := List Value) (iCells IntKind.i64 g.3) (iCells IntKind.i64 c)) /\ ((Plain (iCells IntKind.i64 g.3)) /\ ((g.5 = 0 + zK (Row.mk [] false (Ob.cells true)) 0 (16384 : Int) (0
  : Int) (Row.mk (List.take 800 (List.drop 0 (bCells b))) true (Ob.cells true))) /\ ((g.6 = zN (Row.mk [] false (Ob.cells true)) 0 (16384 : Int) (0 : Int) (Row.mk (List.take
  800 (List.drop 0 (bCells b))) true (Ob.cells true))) /\ (((16384 : Int) = (16384 : Int)) /\ ((ByteArray.mk #[] = ByteArray.mk #[]) /\ ((g.7 = zB (Row.mk [] false (Ob.cells
  true)) 0 (16384 : Int) (0 : Int) (Row.mk (List.take 800 (List.drop 0 (bCells b))) true (Ob.cells true))) /\ ((g.8 = zC (Row.mk [] false (Ob.cells true)) 0 (16384 : Int) (0
  : Int) (Row.mk (List.take 800 (List.drop 0 (bCells b))) true (Ob.cells true))) /\ (((0 : Int) = (0 : Int)) /\ ((0 = 0) /\ (((16384 : Int) = (16384 : Int)) /\
  ((ByteArray.mk #[] = ByteArray.mk #[]) /\ (((0 : Int) = (0 : Int)) /\ (((0 : Int) = (0 : Int)) /\ (((0 : Int) = (0 : Int)) /\ ((Eq (α := List Value) (bCells g.4) (bCells
  (zX (Row.mk [] false (Ob.cells true)) 0 (16384 : Int) (0 : Int) (Row.mk (List.take 800 (List.drop 0 (bCells b))) true (Ob.cells true))))) /\ ((Plain (bCells g.4)) /\ ((Eq
  (α := List Value) (gC enG g.9) (gC enG (zL (Row.mk [] false (Ob.cells true)) 0 (16384 : Int) (0 : Int) (Row.mk (List.take 800 (List.drop 0 (bCells b))) true (Ob.cells
  true))))) /\ ((Plain (gC enG g.9)) /\ ((g.7 = zB (Row.mk [] false (Ob.cells true)) 0 (16384 : Int) (0 : Int) (Row.mk (List.take 800 (List.drop 0 (bCells b))) true
  (Ob.cells true))) /\ ((g.8 = zC (Row.mk [] false (Ob.cells true)) 0 (16384 : Int) (0 : Int) (Row.mk (List.take 800 (List.drop 0 (bCells b))) true (Ob.cells true))) /\ (((0
  : Int) = (0 : Int)) /\ (((0 : Int) = (0 : Int)) /\ (((0 : Int) = (0 : Int)) /\ (((0 : Int) = (0 : Int)) /\ ((Eq (α := List Value) ([]) ([])) /\ ((Eq (α := List Value) ([])
  ([])) /\ (∀ (y : Sa), ((InvA g y) → (br (decide ((0 : Int) <= (↑y.2 : Int) /\ (↑y.2 : Int) <= (↑g.2 : Int) /\ (↑g.2 : Int) <= (↑g.2 : Int))) ((((True /\ ((0 + Int.toNat
  (↑y.2 : Int) * 1 + (Int.toNat (↑g.2 : Int) - Int.toNat (↑y.2 : Int)) * 1 <= List.length (bCells g.1) /\ Plain (List.take ((Int.toNat (↑g.2 : Int) - Int.toNat (↑y.2 : Int))
  * 1) (List.drop (0 + Int.toNat (↑y.2 : Int) * 1) (bCells g.1)))) /\ True)) /\ (((True /\ (True /\ (True /\ (True /\ (True /\ (True /\ True)))))) /\ (True /\ (Plain (bCells
  y.3) /\ True))) /\ ((Plain (bCells (zX (Row.mk (bCells y.3) false (Ob.cells true)) y.4 (16384 : Int) y.6 (Row.mk (List.take ((Int.toNat (↑g.2 : Int) - Int.toNat (↑y.2 :
  Int)) * 1) (List.drop (0 + Int.toNat (↑y.2 : Int) * 1) (bCells g.1))) true (Ob.cells true)))) /\ (Plain (gC enG (zL (Row.mk (bCells y.3) false (Ob.cells true)) y.4 (16384
  : Int) y.6 (Row.mk (List.take ((Int.toNat (↑g.2 : Int) - Int.toNat (↑y.2 : Int)) * 1) (List.drop (0 + Int.toNat (↑y.2 : Int) * 1) (bCells g.1))) true (Ob.cells true)))) /\
  True)) /\ (ByteArray.mk #[] = ByteArray.mk #[] /\ IsR (Row.mk (bCells y.3) false (Ob.cells true)) y.4 y.5 y.6 y.7 (Row.mk (List.take ((Int.toNat (↑g.2 : Int) - Int.toNat
  (↑y.2 : Int)) * 1) (List.drop (0 + Int.toNat (↑y.2 : Int) * 1) (bCells g.1))) true (Ob.cells true)) (Int.toNat (↑g.2 : Int) - Int.toNat (↑y.2 : Int))))))) /\ (br (decide
  (0 + zM (Row.mk (bCells y.3) false (Ob.cells true)) y.4 (16384 : Int) y.6 (Row.mk (List.take ((Int.toNat (↑g.2 : Int) - Int.toNat (↑y.2 : Int)) * 1) (List.drop (0 +
  Int.toNat (↑y.2 : Int) * 1) (bCells g.1))) true (Ob.cells true)) * 4 <= List.length (gC enG (zL (Row.mk (bCells y.3) false (Ob.cells true)) y.4 (16384 : Int) y.6 (Row.mk
  (List.take ((Int.toNat (↑g.2 : Int) - Int.toNat (↑y.2 : Int)) * 1) (List.drop (0 + Int.toNat (↑y.2 : Int) * 1) (bCells g.1))) true (Ob.cells true)))))) (br (allOne
  (List.take (zM (Row.mk (bCells y.3) false (Ob.cells true)) y.4 (16384 : Int) y.6 (Row.mk (List.take ((Int.toNat (↑g.2 : Int) - Int.toNat (↑y.2 : Int)) * 1) (List.drop (0 +
  Int.toNat (↑y.2 : Int) * 1) (bCells g.1))) true (Ob.cells true)) * 4) (List.drop 0 (gC enG (zL (Row.mk (bCells y.3) false (Ob.cells true)) y.4 (16384 : Int) y.6 (Row.mk
  (List.take ((Int.toNat (↑g.2 : Int) - Int.toNat (↑y.2 : Int)) * 1) (List.drop (0 + Int.toNat (↑y.2 : Int) * 1) (bCells g.1))) true (Ob.cells true))))))) (br (decide
  (List.length y.8 + zM (Row.mk (bCells y.3) false (Ob.cells true)) y.4 (16384 : Int) y.6 (Row.mk (List.take ((Int.toNat (↑g.2 : Int) - Int.toNat (↑y.2 : Int)) * 1)
  (List.drop (0 + Int.toNat (↑y.2 : Int) * 1) (bCells g.1))) true (Ob.cells true)) <= 16777216)) (br (decide (0 < List.length y.8 + zM (Row.mk (bCells y.3) false (Ob.cells
  true)) y.4 (16384 : Int) y.6 (Row.mk (List.take ((Int.toNat (↑g.2 : Int) - Int.toNat (↑y.2 : Int)) * 1) (List.drop (0 + Int.toNat (↑y.2 : Int) * 1) (bCells g.1))) true
  (Ob.cells true)) ∨ List.length (gC enG y.8) = 0)) (br (decide (0 + List.length y.8 * 4 <= List.length (gC enG y.8))) ((Value.agg (Array.mk [Value.int IntKind.i64 (zB
  (Row.mk (bCells y.3) false (Ob.cells true)) y.4 (16384 : Int) y.6 (Row.mk (List.take ((Int.toNat (↑g.2 : Int) - Int.toNat (↑y.2 : Int)) * 1) (List.drop (0 + Int.toNat
  (↑y.2 : Int) * 1) (bCells g.1))) true (Ob.cells true))), Value.int IntKind.i64 (zC (Row.mk (bCells y.3) false (Ob.cells true)) y.4 (16384 : Int) y.6 (Row.mk (List.take
  ((Int.toNat (↑g.2 : Int) - Int.toNat (↑y.2 : Int)) * 1) (List.drop (0 + Int.toNat (↑y.2 : Int) * 1) (bCells g.1))) true (Ob.cells true))), Value.int IntKind.i64 (0 :
  Int)]) = Value.agg (Array.mk [Value.int IntKind.i64 (zB (Row.mk (bCells y.3) false (Ob.cells true)) y.4 (16384 : Int) y.6 (Row.mk (List.take ((Int.toNat (↑g.2 : Int) -
  Int.toNat (↑y.2 : Int)) * 1) (List.drop (0 + Int.toNat (↑y.2 : Int) * 1) (bCells g.1))) true (Ob.cells true))), Value.int IntKind.i64 (zC (Row.mk (bCells y.3) false
  (Ob.cells true)) y.4 (16384 : Int) y.6 (Row.mk (List.take ((Int.toNat (↑g.2 : Int) - Int.toNat (↑y.2 : Int)) * 1) (List.drop (0 + Int.toNat (↑y.2 : Int) * 1) (bCells
  g.1))) true (Ob.cells true))), Value.int IntKind.i64 (0 : Int)])) /\ ((Value.agg (Array.mk [Value.int IntKind.i64 (zB (Row.mk (bCells y.3) false (Ob.cells true)) y.4
  (16384 : Int) y.6 (Row.mk (List.take ((Int.toNat (↑g.2 : Int) - Int.toNat (↑y.2 : Int)) * 1) (List.drop (0 + Int.toNat (↑y.2 : Int) * 1) (bCells g.1))) true (Ob.cells
  true))), Value.int IntKind.i64 (zC (Row.mk (bCells y.3) false (Ob.cells true)) y.4 (16384 : Int) y.6 (Row.mk (List.take ((Int.toNat (↑g.2 : Int) - Int.toNat (↑y.2 : Int))
  * 1) (List.drop (0 + Int.toNat (↑y.2 : Int) * 1) (bCells g.1))) true (Ob.cells true))), Value.int IntKind.i64 (0 : Int)]) = Value.agg (Array.mk [Value.int IntKind.i64 (zB
  (Row.mk (bCells y.3) false (Ob.cells true)) y.4 (16384 : Int) y.6 (Row.mk (List.take ((Int.toNat (↑g.2 : Int) - Int.toNat (↑y.2 : Int)) * 1) (List.drop (0 + Int.toNat
  (↑y.2 : Int) * 1) (bCells g.1))) true (Ob.cells true))), Value.int IntKind.i64 (zC (Row.mk (bCells y.3) false (Ob.cells true)) y.4 (16384 : Int) y.6 (Row.mk (List.take
  ((Int.toNat (↑g.2 : Int) - Int.toNat (↑y.2 : Int)) * 1) (List.drop (0 + Int.toNat (↑y.2 : Int) * 1) (bCells g.1))) true (Ob.cells true))), Value.int IntKind.i64 (0 :
  Int)])) /\ (((((0 + (List.length y.8 + zM (Row.mk (bCells y.3) false (Ob.cells true)) y.4 (16384 : Int) y.6 (Row.mk (List.take ((Int.toNat (↑g.2 : Int) - Int.toNat (↑y.2 :
  Int)) * 1) (List.drop (0 + Int.toNat (↑y.2 : Int) * 1) (bCells g.1))) true (Ob.cells true))) * 4 <= List.length (List.take (List.length y.8 * 4) (List.drop 0 (gC enG y.8))
  ++ List.take (zM (Row.mk (bCells y.3) false (Ob.cells true)) y.4 (16384 : Int) y.6 (Row.mk (List.take ((Int.toNat (↑g.2 : Int) - Int.toNat (↑y.2 : Int)) * 1) (List.drop (0
  + Int.toNat (↑y.2 : Int) * 1) (bCells g.1))) true (Ob.cells true)) * 4) (List.drop 0 (gC enG (zL (Row.mk (bCells y.3) false (Ob.cells true)) y.4 (16384 : Int) y.6 (Row.mk
  (List.take ((Int.toNat (↑g.2 : Int) - Int.toNat (↑y.2 : Int)) * 1) (List.drop (0 + Int.toNat (↑y.2 : Int) * 1) (bCells g.1))) true (Ob.cells true)))))) /\ Plain (List.take
  ((List.length y.8 + zM (Row.mk (bCells y.3) false (Ob.cells true)) y.4 (16384 : Int) y.6 (Row.mk (List.take ((Int.toNat (↑g.2 : Int) - Int.toNat (↑y.2 : Int)) * 1)
  (List.drop (0 + Int.toNat (↑y.2 : Int) * 1) (bCells g.1))) true (Ob.cells true))) * 4) (List.drop 0 (List.take (List.length y.8 * 4) (List.drop 0 (gC enG y.8)) ++
  List.take (zM (Row.mk (bCells y.3) false (Ob.cells true)) y.4 (16384 : Int) y.6 (Row.mk (List.take ((Int.toNat (↑g.2 : Int) - Int.toNat (↑y.2 : Int)) * 1) (List.drop (0 +
  Int.toNat (↑y.2 : Int) * 1) (bCells g.1))) true (Ob.cells true)) * 4) (List.drop 0 (gC enG (zL (Row.mk (bCells y.3) false (Ob.cells true)) y.4 (16384 : Int) y.6 (Row.mk
  (List.take ((Int.toNat (↑g.2 : Int) - Int.toNat (↑y.2 : Int)) * 1) (List.drop (0 + Int.toNat (↑y.2 : Int) * 1) (bCells g.1))) true (Ob.cells true))))))))) /\ ((0 +
  List.length g.9 * 4 <= List.length (gC enG g.9) /\ Plain (List.take (List.length g.9 * 4) (List.drop 0 (gC enG g.9)))) /\ True)) /\ ((True /\ (True /\ True)) /\ (True /\
  (IsF (Row.mk (List.take ((List.length y.8 + zM (Row.mk (bCells y.3) false (Ob.cells true)) y.4 (16384 : Int) y.6 (Row.mk (List.take ((Int.toNat (↑g.2 : Int) - Int.toNat
  (↑y.2 : Int)) * 1) (List.drop (0 + Int.toNat (↑y.2 : Int) * 1) (bCells g.1))) true (Ob.cells true))) * 4) (List.drop 0 (List.take (List.length y.8 * 4) (List.drop 0 (gC
  enG y.8)) ++ List.take (zM (Row.mk (bCells y.3) false (Ob.cells true)) y.4 (16384 : Int) y.6 (Row.mk (List.take ((Int.toNat (↑g.2 : Int) - Int.toNat (↑y.2 : Int)) * 1)
  (List.drop (0 + Int.toNat (↑y.2 : Int) * 1) (bCells g.1))) true (Ob.cells true)) * 4) (List.drop 0 (gC enG (zL (Row.mk (bCells y.3) false (Ob.cells true)) y.4 (16384 :
  Int) y.6 (Row.mk (List.take ((Int.toNat (↑g.2 : Int) - Int.toNat (↑y.2 : Int)) * 1) (List.drop (0 + Int.toNat (↑y.2 : Int) * 1) (bCells g.1))) true (Ob.cells true))))))))
  true (Ob.cells true)) (List.length y.8 + zM (Row.mk (bCells y.3) false (Ob.cells true)) y.4 (16384 : Int) y.6 (Row.mk (List.take ((Int.toNat (↑g.2 : Int) - Int.toNat (↑y.2
  : Int)) * 1) (List.drop (0 + Int.toNat (↑y.2 : Int) * 1) (bCells g.1))) true (Ob.cells true))) /\ (IsF (Row.mk (List.take (List.length g.9 * 4) (List.drop 0 (gC enG g.9)))
  true (Ob.cells true)) (List.length g.9) /\ List.length y.8 + zM (Row.mk (bCells y.3) false (Ob.cells true)) y.4 (16384 : Int) y.6 (Row.mk (List.take ((Int.toNat (↑g.2 :
  Int) - Int.toNat (↑y.2 : Int)) * 1) (List.drop (0 + Int.toNat (↑y.2 : Int) * 1) (bCells g.1))) true (Ob.cells true)) <= 9223372036854775807)))))) /\ (br (zF (Row.mk
  (List.take ((List.length y.8 + zM (Row.mk (bCells y.3) false (Ob.cells true)) y.4 (16384 : Int) y.6 (Row.mk (List.take ((Int.toNat (↑g.2 : Int) - Int.toNat (↑y.2 : Int)) *
  1) (List.drop (0 + Int.toNat (↑y.2 : Int) * 1) (bCells g.1))) true (Ob.cells true))) * 4) (List.drop 0 (List.take (List.length y.8 * 4) (List.drop 0 (gC enG y.8)) ++
  List.take (zM (Row.mk (bCells y.3) false (Ob.cells true)) y.4 (16384 : Int) y.6 (Row.mk (List.take ((Int.toNat (↑g.2 : Int) - Int.toNat (↑y.2 : Int)) * 1) (List.drop (0 +
  Int.toNat (↑y.2 : Int) * 1) (bCells g.1))) true (Ob.cells true)) * 4) (List.drop 0 (gC enG (zL (Row.mk (bCells y.3) false (Ob.cells true)) y.4 (16384 : Int) y.6 (Row.mk
  (List.take ((Int.toNat (↑g.2 : Int) - Int.toNat (↑y.2 : Int)) * 1) (List.drop (0 + Int.toNat (↑y.2 : Int) * 1) (bCells g.1))) true (Ob.cells true)))))))) true (Ob.cells
  true)) (Row.mk (List.take (List.length g.9 * 4) (List.drop 0 (gC enG g.9))) true (Ob.cells true))) (br (g.7 == zB (Row.mk (bCells y.3) false (Ob.cells true)) y.4 (16384 :
  Int) y.6 (Row.mk (List.take ((Int.toNat (↑g.2 : Int) - Int.toNat (↑y.2 : Int)) * 1) (List.drop (0 + Int.toNat (↑y.2 : Int) * 1) (bCells g.1))) true (Ob.cells true)) &&
  (g.8 == zC (Row.mk (bCells y.3) false (Ob.cells true)) y.4 (16384 : Int) y.6 (Row.mk (List.take ((Int.toNat (↑g.2 : Int) - Int.toNat (↑y.2 : Int)) * 1) (List.drop (0 +
  Int.toNat (↑y.2 : Int) * 1) (bCells g.1))) true (Ob.cells true)) && true)) (br (Int.ofNat g.6 == Int.ofNat (zN (Row.mk (bCells y.3) false (Ob.cells true)) y.4 (16384 :
  Int) y.6 (Row.mk (List.take ((Int.toNat (↑g.2 : Int) - Int.toNat (↑y.2 : Int)) * 1) (List.drop (0 + Int.toNat (↑y.2 : Int) * 1) (bCells g.1))) true (Ob.cells true))))
  (((True /\ (True /\ (True /\ True)))) /\ ((true = true) /\ ((Eq (α := List Value) (bCells b) (bCells g.1)) /\ ((Plain (bCells b)) /\ ((Eq (α := List Value) (iCells
  IntKind.i64 c) (iCells IntKind.i64 g.3)) /\ ((Plain (iCells IntKind.i64 c)) /\ True)))))) ((true = false) /\ ((Eq (α := List Value) (bCells b) (bCells g.1)) /\ ((Plain
  (bCells b)) /\ ((Eq (α := List Value) (iCells IntKind.i64 c) (iCells IntKind.i64 g.3)) /\ ((Plain (iCells IntKind.i64 c)) /\ True)))))) ((true = false) /\ ((Eq (α := List
  Value) (bCells b) (bCells g.1)) /\ ((Plain (bCells b)) /\ ((Eq (α := List Value) (iCells IntKind.i64 c) (iCells IntKind.i64 g.3)) /\ ((Plain (iCells IntKind.i64 c)) /\
  True)))))) ((true = false) /\ ((Eq (α := List Value) (bCells b) (bCells g.1)) /\ ((Plain (bCells b)) /\ ((Eq (α := List Value) (iCells IntKind.i64 c) (iCells IntKind.i64
  g.3)) /\ ((Plain (iCells IntKind.i64 c)) /\ True))))))))) False) ((Value.agg (Array.mk [Value.int IntKind.i64 (zB (Row.mk (bCells y.3) false (Ob.cells true)) y.4 (16384 :
  Int) y.6 (Row.mk (List.take ((Int.toNat (↑g.2 : Int) - Int.toNat (↑y.2 : Int)) * 1) (List.drop (0 + Int.toNat (↑y.2 : Int) * 1) (bCells g.1))) true (Ob.cells true))),
  Value.int IntKind.i64 (zC (Row.mk (bCells y.3) false (Ob.cells true)) y.4 (16384 : Int) y.6 (Row.mk (List.take ((Int.toNat (↑g.2 : Int) - Int.toNat (↑y.2 : Int)) * 1)
  (List.drop (0 + Int.toNat (↑y.2 : Int) * 1) (bCells g.1))) true (Ob.cells true))), Value.int IntKind.i64 (0 : Int)]) = Value.agg (Array.mk [Value.int IntKind.i64 (zB
  (Row.mk (bCells y.3) false (Ob.cells true)) y.4 (16384 : Int) y.6 (Row.mk (List.take ((Int.toNat (↑g.2 : Int) - Int.toNat (↑y.2 : Int)) * 1) (List.drop (0 + Int.toNat
  (↑y.2 : Int) * 1) (bCells g.1))) true (Ob.cells true))), Value.int IntKind.i64 (zC (Row.mk (bCells y.3) false (Ob.cells true)) y.4 (16384 : Int) y.6 (Row.mk (List.take
  ((Int.toNat (↑g.2 : Int) - Int.toNat (↑y.2 : Int)) * 1) (List.drop (0 + Int.toNat (↑y.2 : Int) * 1) (bCells g.1))) true (Ob.cells true))), Value.int IntKind.i64 (0 :
  Int)])) /\ ((Value.agg (Array.mk [Value.int IntKind.i64 (zB (Row.mk (bCells y.3) false (Ob.cells true)) y.4 (16384 : Int) y.6 (Row.mk (List.take ((Int.toNat (↑g.2 : Int) -
  Int.toNat (↑y.2 : Int)) * 1) (List.drop (0 + Int.toNat (↑y.2 : Int) * 1) (bCells g.1))) true (Ob.cells true))), Value.int IntKind.i64 (zC (Row.mk (bCells y.3) false
  (Ob.cells true)) y.4 (16384 : Int) y.6 (Row.mk (List.take ((Int.toNat (↑g.2 : Int) - Int.toNat (↑y.2 : Int)) * 1) (List.drop (0 + Int.toNat (↑y.2 : Int) * 1) (bCells
  g.1))) true (Ob.cells true))), Value.int IntKind.i64 (0 : Int)]) = Value.agg (Array.mk [Value.int IntKind.i64 (zB (Row.mk (bCells y.3) false (Ob.cells true)) y.4 (16384 :
  Int) y.6 (Row.mk (List.take ((Int.toNat (↑g.2 : Int) - Int.toNat (↑y.2 : Int)) * 1) (List.drop (0 + Int.toNat (↑y.2 : Int) * 1) (bCells g.1))) true (Ob.cells true))),
  Value.int IntKind.i64 (zC (Row.mk (bCells y.3) false (Ob.cells true)) y.4 (16384 : Int) y.6 (Row.mk (List.take ((Int.toNat (↑g.2 : Int) - Int.toNat (↑y.2 : Int)) * 1)
  (List.drop (0 + Int.toNat (↑y.2 : Int) * 1) (bCells g.1))) true (Ob.cells true))), Value.int IntKind.i64 (0 : Int)])) /\ (((((0 + List.length y.8 * 4 <= List.length (gC
  enG y.8) /\ Plain (List.take (List.length y.8 * 4) (List.drop 0 (gC enG y.8)))) /\ ((0 + List.length g.9 * 4 <= List.length (gC enG g.9) /\ Plain (List.take (List.length
  g.9 * 4) (List.drop 0 (gC enG g.9)))) /\ True)) /\ ((True /\ (True /\ True)) /\ (True /\ (IsF (Row.mk (List.take (List.length y.8 * 4) (List.drop 0 (gC enG y.8))) true
  (Ob.cells true)) (List.length y.8) /\ (IsF (Row.mk (List.take (List.length g.9 * 4) (List.drop 0 (gC enG g.9))) true (Ob.cells true)) (List.length g.9) /\ List.length y.8
  <= 9223372036854775807)))))) /\ (br (zF (Row.mk (List.take (List.length y.8 * 4) (List.drop 0 (gC enG y.8))) true (Ob.cells true)) (Row.mk (List.take (List.length g.9 * 4)
  (List.drop 0 (gC enG g.9))) true (Ob.cells true))) (br (g.7 == zB (Row.mk (bCells y.3) false (Ob.cells true)) y.4 (16384 : Int) y.6 (Row.mk (List.take ((Int.toNat (↑g.2 :
  Int) - Int.toNat (↑y.2 : Int)) * 1) (List.drop (0 + Int.toNat (↑y.2 : Int) * 1) (bCells g.1))) true (Ob.cells true)) && (g.8 == zC (Row.mk (bCells y.3) false (Ob.cells
  true)) y.4 (16384 : Int) y.6 (Row.mk (List.take ((Int.toNat (↑g.2 : Int) - Int.toNat (↑y.2 : Int)) * 1) (List.drop (0 + Int.toNat (↑y.2 : Int) * 1) (bCells g.1))) true
  (Ob.cells true)) && true)) (br (Int.ofNat g.6 == Int.ofNat (zN (Row.mk (bCells y.3) false (Ob.cells true)) y.4 (16384 : Int) y.6 (Row.mk (List.take ((Int.toNat (↑g.2 :
  Int) - Int.toNat (↑y.2 : Int)) * 1) (List.drop (0 + Int.toNat (↑y.2 : Int) * 1) (bCells g.1))) true (Ob.cells true)))) (((True /\ (True /\ (True /\ True)))) /\ ((true =
  true) /\ ((Eq (α := List Value) (bCells b) (bCells g.1)) /\ ((Plain (bCells b)) /\ ((Eq (α := List Value) (iCells IntKind.i64 c) (iCells IntKind.i64 g.3)) /\ ((Plain
  (iCells IntKind.i64 c)) /\ True)))))) ((true = false) /\ ((Eq (α := List Value) (bCells b) (bCells g.1)) /\ ((Plain (bCells b)) /\ ((Eq (α := List Value) (iCells
  IntKind.i64 c) (iCells IntKind.i64 g.3)) /\ ((Plain (iCells IntKind.i64 c)) /\ True)))))) ((true = false) /\ ((Eq (α := List Value) (bCells b) (bCells g.1)) /\ ((Plain
  (bCells b)) /\ ((Eq (α := List Value) (iCells IntKind.i64 c) (iCells IntKind.i64 g.3)) /\ ((Plain (iCells IntKind.i64 c)) /\ True)))))) ((true = false) /\ ((Eq (α := List
  Value) (bCells b) (bCells g.1)) /\ ((Plain (bCells b)) /\ ((Eq (α := List Value) (iCells IntKind.i64 c) (iCells IntKind.i64 g.3)) /\ ((Plain (iCells IntKind.i64 c)) /\
  True)))))))))) False) False) False)) False)))))))))))))))))))))))))))))))))))))))))))))))) False) ((((True /\ ((0 + List.length b * 1 <= List.length (bCells b) /\ Plain
  (List.take (List.length b * 1) (List.drop 0 (bCells b)))) /\ True)) /\ (((True /\ (True /\ (True /\ (True /\ (True /\ (True /\ True)))))) /\ (True /\ True)) /\ ((Plain
  (bCells (zX (Row.mk [] false (Ob.cells true)) 0 (16384 : Int) (0 : Int) (Row.mk (List.take (List.length b * 1) (List.drop 0 (bCells b))) true (Ob.cells true)))) /\ (Plain
  (gC enG (zL (Row.mk [] false (Ob.cells true)) 0 (16384 : Int) (0 : Int) (Row.mk (List.take (List.length b * 1) (List.drop 0 (bCells b))) true (Ob.cells true)))) /\ True))
  /\ (ByteArray.mk #[] = ByteArray.mk #[] /\ (IsB (Row.mk (List.take (List.length b * 1) (List.drop 0 (bCells b))) true (Ob.cells true)) (List.length b) /\ List.length b <=
  16777216)))))) /\ (∃ g : Ga, ((GaOk g) /\ ((0 = 0) /\ ((g.2 = List.length b) /\ ((0 = 0) /\ ((List.length g.3 = List.length c) /\ ((0 = 0) /\ ((0 = 0) /\ ((0 = 0) /\
  ((List.length g.9 = zM (Row.mk [] false (Ob.cells true)) 0 (16384 : Int) (0 : Int) (Row.mk (List.take (List.length b * 1) (List.drop 0 (bCells b))) true (Ob.cells true)))
  /\ ((0 = 0) /\ ((0 = 0) /\ ((0 = 0) /\ (((0 : Int) = (0 : Int)) /\ (((0 : Int) = (0 : Int)) /\ ((Eq (α := List Value) (bCells g.1) (bCells b)) /\ ((Plain (bCells g.1)) /\
  ((Eq (α := List Value) (iCells IntKind.i64 g.3) (iCells IntKind.i64 c)) /\ ((Plain (iCells IntKind.i64 g.3)) /\ ((g.5 = 0 + zK (Row.mk [] false (Ob.cells true)) 0 (16384 :
  Int) (0 : Int) (Row.mk (List.take (List.length b * 1) (List.drop 0 (bCells b))) true (Ob.cells true))) /\ ((g.6 = zN (Row.mk [] false (Ob.cells true)) 0 (16384 : Int) (0 :
  Int) (Row.mk (List.take (List.length b * 1) (List.drop 0 (bCells b))) true (Ob.cells true))) /\ (((16384 : Int) = (16384 : Int)) /\ ((ByteArray.mk #[] = ByteArray.mk #[])
  /\ ((g.7 = zB (Row.mk [] false (Ob.cells true)) 0 (16384 : Int) (0 : Int) (Row.mk (List.take (List.length b * 1) (List.drop 0 (bCells b))) true (Ob.cells true))) /\ ((g.8
  = zC (Row.mk [] false (Ob.cells true)) 0 (16384 : Int) (0 : Int) (Row.mk (List.take (List.length b * 1) (List.drop 0 (bCells b))) true (Ob.cells true))) /\ (((0 : Int) =
  (0 : Int)) /\ ((0 = 0) /\ (((16384 : Int) = (16384 : Int)) /\ ((ByteArray.mk #[] = ByteArray.mk #[]) /\ (((0 : Int) = (0 : Int)) /\ (((0 : Int) = (0 : Int)) /\ (((0 : Int)
  = (0 : Int)) /\ ((Eq (α := List Value) (bCells g.4) (bCells (zX (Row.mk [] false (Ob.cells true)) 0 (16384 : Int) (0 : Int) (Row.mk (List.take (List.length b * 1)
  (List.drop 0 (bCells b))) true (Ob.cells true))))) /\ ((Plain (bCells g.4)) /\ ((Eq (α := List Value) (gC enG g.9) (gC enG (zL (Row.mk [] false (Ob.cells true)) 0 (16384 :
  Int) (0 : Int) (Row.mk (List.take (List.length b * 1) (List.drop 0 (bCells b))) true (Ob.cells true))))) /\ ((Plain (gC enG g.9)) /\ ((g.7 = zB (Row.mk [] false (Ob.cells
  true)) 0 (16384 : Int) (0 : Int) (Row.mk (List.take (List.length b * 1) (List.drop 0 (bCells b))) true (Ob.cells true))) /\ ((g.8 = zC (Row.mk [] false (Ob.cells true)) 0
  (16384 : Int) (0 : Int) (Row.mk (List.take (List.length b * 1) (List.drop 0 (bCells b))) true (Ob.cells true))) /\ (((0 : Int) = (0 : Int)) /\ (((0 : Int) = (0 : Int)) /\
  (((0 : Int) = (0 : Int)) /\ (((0 : Int) = (0 : Int)) /\ ((Eq (α := List Value) ([]) ([])) /\ ((Eq (α := List Value) ([]) ([])) /\ (∀ (y : Sa), ((InvA g y) → (br (decide
  ((0 : Int) <= (↑y.2 : Int) /\ (↑y.2 : Int) <= (↑g.2 : Int) /\ (↑g.2 : Int) <= (↑g.2 : Int))) ((((True /\ ((0 + Int.toNat (↑y.2 : Int) * 1 + (Int.toNat (↑g.2 : Int) -
  Int.toNat (↑y.2 : Int)) * 1 <= List.length (bCells g.1) /\ Plain (List.take ((Int.toNat (↑g.2 : Int) - Int.toNat (↑y.2 : Int)) * 1) (List.drop (0 + Int.toNat (↑y.2 : Int)
  * 1) (bCells g.1)))) /\ True)) /\ (((True /\ (True /\ (True /\ (True /\ (True /\ (True /\ True)))))) /\ (True /\ (Plain (bCells y.3) /\ True))) /\ ((Plain (bCells (zX
  (Row.mk (bCells y.3) false (Ob.cells true)) y.4 (16384 : Int) y.6 (Row.mk (List.take ((Int.toNat (↑g.2 : Int) - Int.toNat (↑y.2 : Int)) * 1) (List.drop (0 + Int.toNat
  (↑y.2 : Int) * 1) (bCells g.1))) true (Ob.cells true)))) /\ (Plain (gC enG (zL (Row.mk (bCells y.3) false (Ob.cells true)) y.4 (16384 : Int) y.6 (Row.mk (List.take
  ((Int.toNat (↑g.2 : Int) - Int.toNat (↑y.2 : Int)) * 1) (List.drop (0 + Int.toNat (↑y.2 : Int) * 1) (bCells g.1))) true (Ob.cells true)))) /\ True)) /\ (ByteArray.mk #[] =
  ByteArray.mk #[] /\ IsR (Row.mk (bCells y.3) false (Ob.cells true)) y.4 y.5 y.6 y.7 (Row.mk (List.take ((Int.toNat (↑g.2 : Int) - Int.toNat (↑y.2 : Int)) * 1) (List.drop
  (0 + Int.toNat (↑y.2 : Int) * 1) (bCells g.1))) true (Ob.cells true)) (Int.toNat (↑g.2 : Int) - Int.toNat (↑y.2 : Int))))))) /\ (br (decide (0 + zM (Row.mk (bCells y.3)
  false (Ob.cells true)) y.4 (16384 : Int) y.6 (Row.mk (List.take ((Int.toNat (↑g.2 : Int) - Int.toNat (↑y.2 : Int)) * 1) (List.drop (0 + Int.toNat (↑y.2 : Int) * 1) (bCells
  g.1))) true (Ob.cells true)) * 4 <= List.length (gC enG (zL (Row.mk (bCells y.3) false (Ob.cells true)) y.4 (16384 : Int) y.6 (Row.mk (List.take ((Int.toNat (↑g.2 : Int) -
  Int.toNat (↑y.2 : Int)) * 1) (List.drop (0 + Int.toNat (↑y.2 : Int) * 1) (bCells g.1))) true (Ob.cells true)))))) (br (allOne (List.take (zM (Row.mk (bCells y.3) false
  (Ob.cells true)) y.4 (16384 : Int) y.6 (Row.mk (List.take ((Int.toNat (↑g.2 : Int) - Int.toNat (↑y.2 : Int)) * 1) (List.drop (0 + Int.toNat (↑y.2 : Int) * 1) (bCells
  g.1))) true (Ob.cells true)) * 4) (List.drop 0 (gC enG (zL (Row.mk (bCells y.3) false (Ob.cells true)) y.4 (16384 : Int) y.6 (Row.mk (List.take ((Int.toNat (↑g.2 : Int) -
  Int.toNat (↑y.2 : Int)) * 1) (List.drop (0 + Int.toNat (↑y.2 : Int) * 1) (bCells g.1))) true (Ob.cells true))))))) (br (decide (List.length y.8 + zM (Row.mk (bCells y.3)
  false (Ob.cells true)) y.4 (16384 : Int) y.6 (Row.mk (List.take ((Int.toNat (↑g.2 : Int) - Int.toNat (↑y.2 : Int)) * 1) (List.drop (0 + Int.toNat (↑y.2 : Int) * 1) (bCells
  g.1))) true (Ob.cells true)) <= 16777216)) (br (decide (0 < List.length y.8 + zM (Row.mk (bCells y.3) false (Ob.cells true)) y.4 (16384 : Int) y.6 (Row.mk (List.take
  ((Int.toNat (↑g.2 : Int) - Int.toNat (↑y.2 : Int)) * 1) (List.drop (0 + Int.toNat (↑y.2 : Int) * 1) (bCells g.1))) true (Ob.cells true)) ∨ List.length (gC enG y.8) = 0))
  (br (decide (0 + List.length y.8 * 4 <= List.length (gC enG y.8))) ((Value.agg (Array.mk [Value.int IntKind.i64 (zB (Row.mk (bCells y.3) false (Ob.cells true)) y.4 (16384
  : Int) y.6 (Row.mk (List.take ((Int.toNat (↑g.2 : Int) - Int.toNat (↑y.2 : Int)) * 1) (List.drop (0 + Int.toNat (↑y.2 : Int) * 1) (bCells g.1))) true (Ob.cells true))),
  Value.int IntKind.i64 (zC (Row.mk (bCells y.3) false (Ob.cells true)) y.4 (16384 : Int) y.6 (Row.mk (List.take ((Int.toNat (↑g.2 : Int) - Int.toNat (↑y.2 : Int)) * 1)
  (List.drop (0 + Int.toNat (↑y.2 : Int) * 1) (bCells g.1))) true (Ob.cells true))), Value.int IntKind.i64 (0 : Int)]) = Value.agg (Array.mk [Value.int IntKind.i64 (zB
  (Row.mk (bCells y.3) false (Ob.cells true)) y.4 (16384 : Int) y.6 (Row.mk (List.take ((Int.toNat (↑g.2 : Int) - Int.toNat (↑y.2 : Int)) * 1) (List.drop (0 + Int.toNat
  (↑y.2 : Int) * 1) (bCells g.1))) true (Ob.cells true))), Value.int IntKind.i64 (zC (Row.mk (bCells y.3) false (Ob.cells true)) y.4 (16384 : Int) y.6 (Row.mk (List.take
  ((Int.toNat (↑g.2 : Int) - Int.toNat (↑y.2 : Int)) * 1) (List.drop (0 + Int.toNat (↑y.2 : Int) * 1) (bCells g.1))) true (Ob.cells true))), Value.int IntKind.i64 (0 :
  Int)])) /\ ((Value.agg (Array.mk [Value.int IntKind.i64 (zB (Row.mk (bCells y.3) false (Ob.cells true)) y.4 (16384 : Int) y.6 (Row.mk (List.take ((Int.toNat (↑g.2 : Int) -
  Int.toNat (↑y.2 : Int)) * 1) (List.drop (0 + Int.toNat (↑y.2 : Int) * 1) (bCells g.1))) true (Ob.cells true))), Value.int IntKind.i64 (zC (Row.mk (bCells y.3) false
  (Ob.cells true)) y.4 (16384 : Int) y.6 (Row.mk (List.take ((Int.toNat (↑g.2 : Int) - Int.toNat (↑y.2 : Int)) * 1) (List.drop (0 + Int.toNat (↑y.2 : Int) * 1) (bCells
  g.1))) true (Ob.cells true))), Value.int IntKind.i64 (0 : Int)]) = Value.agg (Array.mk [Value.int IntKind.i64 (zB (Row.mk (bCells y.3) false (Ob.cells true)) y.4 (16384 :
  Int) y.6 (Row.mk (List.take ((Int.toNat (↑g.2 : Int) - Int.toNat (↑y.2 : Int)) * 1) (List.drop (0 + Int.toNat (↑y.2 : Int) * 1) (bCells g.1))) true (Ob.cells true))),
  Value.int IntKind.i64 (zC (Row.mk (bCells y.3) false (Ob.cells true)) y.4 (16384 : Int) y.6 (Row.mk (List.take ((Int.toNat (↑g.2 : Int) - Int.toNat (↑y.2 : Int)) * 1)
  (List.drop (0 + Int.toNat (↑y.2 : Int) * 1) (bCells g.1))) true (Ob.cells true))), Value.int IntKind.i64 (0 : Int)])) /\ (((((0 + (List.length y.8 + zM (Row.mk (bCells
  y.3) false (Ob.cells true)) y.4 (16384 : Int) y.6 (Row.mk (List.take ((Int.toNat (↑g.2 : Int) - Int.toNat (↑y.2 : Int)) * 1) (List.drop (0 + Int.toNat (↑y.2 : Int) * 1)
  (bCells g.1))) true (Ob.cells true))) * 4 <= List.length (List.take (List.length y.8 * 4) (List.drop 0 (gC enG y.8)) ++ List.take (zM (Row.mk (bCells y.3) false (Ob.cells
  true)) y.4 (16384 : Int) y.6 (Row.mk (List.take ((Int.toNat (↑g.2 : Int) - Int.toNat (↑y.2 : Int)) * 1) (List.drop (0 + Int.toNat (↑y.2 : Int) * 1) (bCells g.1))) true
  (Ob.cells true)) * 4) (List.drop 0 (gC enG (zL (Row.mk (bCells y.3) false (Ob.cells true)) y.4 (16384 : Int) y.6 (Row.mk (List.take ((Int.toNat (↑g.2 : Int) - Int.toNat
  (↑y.2 : Int)) * 1) (List.drop (0 + Int.toNat (↑y.2 : Int) * 1) (bCells g.1))) true (Ob.cells true)))))) /\ Plain (List.take ((List.length y.8 + zM (Row.mk (bCells y.3)
  false (Ob.cells true)) y.4 (16384 : Int) y.6 (Row.mk (List.take ((Int.toNat (↑g.2 : Int) - Int.toNat (↑y.2 : Int)) * 1) (List.drop (0 + Int.toNat (↑y.2 : Int) * 1) (bCells
  g.1))) true (Ob.cells true))) * 4) (List.drop 0 (List.take (List.length y.8 * 4) (List.drop 0 (gC enG y.8)) ++ List.take (zM (Row.mk (bCells y.3) false (Ob.cells true))
  y.4 (16384 : Int) y.6 (Row.mk (List.take ((Int.toNat (↑g.2 : Int) - Int.toNat (↑y.2 : Int)) * 1) (List.drop (0 + Int.toNat (↑y.2 : Int) * 1) (bCells g.1))) true (Ob.cells
  true)) * 4) (List.drop 0 (gC enG (zL (Row.mk (bCells y.3) false (Ob.cells true)) y.4 (16384 : Int) y.6 (Row.mk (List.take ((Int.toNat (↑g.2 : Int) - Int.toNat (↑y.2 :
  Int)) * 1) (List.drop (0 + Int.toNat (↑y.2 : Int) * 1) (bCells g.1))) true (Ob.cells true))))))))) /\ ((0 + List.length g.9 * 4 <= List.length (gC enG g.9) /\ Plain
  (List.take (List.length g.9 * 4) (List.drop 0 (gC enG g.9)))) /\ True)) /\ ((True /\ (True /\ True)) /\ (True /\ (IsF (Row.mk (List.take ((List.length y.8 + zM (Row.mk
  (bCells y.3) false (Ob.cells true)) y.4 (16384 : Int) y.6 (Row.mk (List.take ((Int.toNat (↑g.2 : Int) - Int.toNat (↑y.2 : Int)) * 1) (List.drop (0 + Int.toNat (↑y.2 : Int)
  * 1) (bCells g.1))) true (Ob.cells true))) * 4) (List.drop 0 (List.take (List.length y.8 * 4) (List.drop 0 (gC enG y.8)) ++ List.take (zM (Row.mk (bCells y.3) false
  (Ob.cells true)) y.4 (16384 : Int) y.6 (Row.mk (List.take ((Int.toNat (↑g.2 : Int) - Int.toNat (↑y.2 : Int)) * 1) (List.drop (0 + Int.toNat (↑y.2 : Int) * 1) (bCells
  g.1))) true (Ob.cells true)) * 4) (List.drop 0 (gC enG (zL (Row.mk (bCells y.3) false (Ob.cells true)) y.4 (16384 : Int) y.6 (Row.mk (List.take ((Int.toNat (↑g.2 : Int) -
  Int.toNat (↑y.2 : Int)) * 1) (List.drop (0 + Int.toNat (↑y.2 : Int) * 1) (bCells g.1))) true (Ob.cells true)))))))) true (Ob.cells true)) (List.length y.8 + zM (Row.mk
  (bCells y.3) false (Ob.cells true)) y.4 (16384 : Int) y.6 (Row.mk (List.take ((Int.toNat (↑g.2 : Int) - Int.toNat (↑y.2 : Int)) * 1) (List.drop (0 + Int.toNat (↑y.2 : Int)
  * 1) (bCells g.1))) true (Ob.cells true))) /\ (IsF (Row.mk (List.take (List.length g.9 * 4) (List.drop 0 (gC enG g.9))) true (Ob.cells true)) (List.length g.9) /\
  List.length y.8 + zM (Row.mk (bCells y.3) false (Ob.cells true)) y.4 (16384 : Int) y.6 (Row.mk (List.take ((Int.toNat (↑g.2 : Int) - Int.toNat (↑y.2 : Int)) * 1)
  (List.drop (0 + Int.toNat (↑y.2 : Int) * 1) (bCells g.1))) true (Ob.cells true)) <= 9223372036854775807)))))) /\ (br (zF (Row.mk (List.take ((List.length y.8 + zM (Row.mk
  (bCells y.3) false (Ob.cells true)) y.4 (16384 : Int) y.6 (Row.mk (List.take ((Int.toNat (↑g.2 : Int) - Int.toNat (↑y.2 : Int)) * 1) (List.drop (0 + Int.toNat (↑y.2 : Int)
  * 1) (bCells g.1))) true (Ob.cells true))) * 4) (List.drop 0 (List.take (List.length y.8 * 4) (List.drop 0 (gC enG y.8)) ++ List.take (zM (Row.mk (bCells y.3) false
  (Ob.cells true)) y.4 (16384 : Int) y.6 (Row.mk (List.take ((Int.toNat (↑g.2 : Int) - Int.toNat (↑y.2 : Int)) * 1) (List.drop (0 + Int.toNat (↑y.2 : Int) * 1) (bCells
  g.1))) true (Ob.cells true)) * 4) (List.drop 0 (gC enG (zL (Row.mk (bCells y.3) false (Ob.cells true)) y.4 (16384 : Int) y.6 (Row.mk (List.take ((Int.toNat (↑g.2 : Int) -
  Int.toNat (↑y.2 : Int)) * 1) (List.drop (0 + Int.toNat (↑y.2 : Int) * 1) (bCells g.1))) true (Ob.cells true)))))))) true (Ob.cells true)) (Row.mk (List.take (List.length
  g.9 * 4) (List.drop 0 (gC enG g.9))) true (Ob.cells true))) (br (g.7 == zB (Row.mk (bCells y.3) false (Ob.cells true)) y.4 (16384 : Int) y.6 (Row.mk (List.take ((Int.toNat
  (↑g.2 : Int) - Int.toNat (↑y.2 : Int)) * 1) (List.drop (0 + Int.toNat (↑y.2 : Int) * 1) (bCells g.1))) true (Ob.cells true)) && (g.8 == zC (Row.mk (bCells y.3) false
  (Ob.cells true)) y.4 (16384 : Int) y.6 (Row.mk (List.take ((Int.toNat (↑g.2 : Int) - Int.toNat (↑y.2 : Int)) * 1) (List.drop (0 + Int.toNat (↑y.2 : Int) * 1) (bCells
  g.1))) true (Ob.cells true)) && true)) (br (Int.ofNat g.6 == Int.ofNat (zN (Row.mk (bCells y.3) false (Ob.cells true)) y.4 (16384 : Int) y.6 (Row.mk (List.take ((Int.toNat
  (↑g.2 : Int) - Int.toNat (↑y.2 : Int)) * 1) (List.drop (0 + Int.toNat (↑y.2 : Int) * 1) (bCells g.1))) true (Ob.cells true)))) (((True /\ (True /\ (True /\ True)))) /\
  ((true = true) /\ ((Eq (α := List Value) (bCells b) (bCells g.1)) /\ ((Plain (bCells b)) /\ ((Eq (α := List Value) (iCells IntKind.i64 c) (iCells IntKind.i64 g.3)) /\
  ((Plain (iCells IntKind.i64 c)) /\ True)))))) ((true = false) /\ ((Eq (α := List Value) (bCells b) (bCells g.1)) /\ ((Plain (bCells b)) /\ ((Eq (α := List Value) (iCells
  IntKind.i64 c) (iCells IntKind.i64 g.3)) /\ ((Plain (iCells IntKind.i64 c)) /\ True)))))) ((true = false) /\ ((Eq (α := List Value) (bCells b) (bCells g.1)) /\ ((Plain
  (bCells b)) /\ ((Eq (α := List Value) (iCells IntKind.i64 c) (iCells IntKind.i64 g.3)) /\ ((Plain (iCells IntKind.i64 c)) /\ True)))))) ((true = false) /\ ((Eq (α := List
  Value) (bCells b) (bCells g.1)) /\ ((Plain (bCells b)) /\ ((Eq (α := List Value) (iCells IntKind.i64 c) (iCells IntKind.i64 g.3)) /\ ((Plain (iCells IntKind.i64 c)) /\
  True))))))))) False) ((Value.agg (Array.mk [Value.int IntKind.i64 (zB (Row.mk (bCells y.3) false (Ob.cells true)) y.4 (16384 : Int) y.6 (Row.mk (List.take ((Int.toNat
  (↑g.2 : Int) - Int.toNat (↑y.2 : Int)) * 1) (List.drop (0 + Int.toNat (↑y.2 : Int) * 1) (bCells g.1))) true (Ob.cells true))), Value.int IntKind.i64 (zC (Row.mk (bCells
  y.3) false (Ob.cells true)) y.4 (16384 : Int) y.6 (Row.mk (List.take ((Int.toNat (↑g.2 : Int) - Int.toNat (↑y.2 : Int)) * 1) (List.drop (0 + Int.toNat (↑y.2 : Int) * 1)
  (bCells g.1))) true (Ob.cells true))), Value.int IntKind.i64 (0 : Int)]) = Value.agg (Array.mk [Value.int IntKind.i64 (zB (Row.mk (bCells y.3) false (Ob.cells true)) y.4
  (16384 : Int) y.6 (Row.mk (List.take ((Int.toNat (↑g.2 : Int) - Int.toNat (↑y.2 : Int)) * 1) (List.drop (0 + Int.toNat (↑y.2 : Int) * 1) (bCells g.1))) true (Ob.cells
  true))), Value.int IntKind.i64 (zC (Row.mk (bCells y.3) false (Ob.cells true)) y.4 (16384 : Int) y.6 (Row.mk (List.take ((Int.toNat (↑g.2 : Int) - Int.toNat (↑y.2 : Int))
  * 1) (List.drop (0 + Int.toNat (↑y.2 : Int) * 1) (bCells g.1))) true (Ob.cells true))), Value.int IntKind.i64 (0 : Int)])) /\ ((Value.agg (Array.mk [Value.int IntKind.i64
  (zB (Row.mk (bCells y.3) false (Ob.cells true)) y.4 (16384 : Int) y.6 (Row.mk (List.take ((Int.toNat (↑g.2 : Int) - Int.toNat (↑y.2 : Int)) * 1) (List.drop (0 + Int.toNat
  (↑y.2 : Int) * 1) (bCells g.1))) true (Ob.cells true))), Value.int IntKind.i64 (zC (Row.mk (bCells y.3) false (Ob.cells true)) y.4 (16384 : Int) y.6 (Row.mk (List.take
  ((Int.toNat (↑g.2 : Int) - Int.toNat (↑y.2 : Int)) * 1) (List.drop (0 + Int.toNat (↑y.2 : Int) * 1) (bCells g.1))) true (Ob.cells true))), Value.int IntKind.i64 (0 :
  Int)]) = Value.agg (Array.mk [Value.int IntKind.i64 (zB (Row.mk (bCells y.3) false (Ob.cells true)) y.4 (16384 : Int) y.6 (Row.mk (List.take ((Int.toNat (↑g.2 : Int) -
  Int.toNat (↑y.2 : Int)) * 1) (List.drop (0 + Int.toNat (↑y.2 : Int) * 1) (bCells g.1))) true (Ob.cells true))), Value.int IntKind.i64 (zC (Row.mk (bCells y.3) false
  (Ob.cells true)) y.4 (16384 : Int) y.6 (Row.mk (List.take ((Int.toNat (↑g.2 : Int) - Int.toNat (↑y.2 : Int)) * 1) (List.drop (0 + Int.toNat (↑y.2 : Int) * 1) (bCells
  g.1))) true (Ob.cells true))), Value.int IntKind.i64 (0 : Int)])) /\ (((((0 + List.length y.8 * 4 <= List.length (gC enG y.8) /\ Plain (List.take (List.length y.8 * 4)
  (List.drop 0 (gC enG y.8)))) /\ ((0 + List.length g.9 * 4 <= List.length (gC enG g.9) /\ Plain (List.take (List.length g.9 * 4) (List.drop 0 (gC enG g.9)))) /\ True)) /\
  ((True /\ (True /\ True)) /\ (True /\ (IsF (Row.mk (List.take (List.length y.8 * 4) (List.drop 0 (gC enG y.8))) true (Ob.cells true)) (List.length y.8) /\ (IsF (Row.mk
  (List.take (List.length g.9 * 4) (List.drop 0 (gC enG g.9))) true (Ob.cells true)) (List.length g.9) /\ List.length y.8 <= 9223372036854775807)))))) /\ (br (zF (Row.mk
  (List.take (List.length y.8 * 4) (List.drop 0 (gC enG y.8))) true (Ob.cells true)) (Row.mk (List.take (List.length g.9 * 4) (List.drop 0 (gC enG g.9))) true (Ob.cells
  true))) (br (g.7 == zB (Row.mk (bCells y.3) false (Ob.cells true)) y.4 (16384 : Int) y.6 (Row.mk (List.take ((Int.toNat (↑g.2 : Int) - Int.toNat (↑y.2 : Int)) * 1)
  (List.drop (0 + Int.toNat (↑y.2 : Int) * 1) (bCells g.1))) true (Ob.cells true)) && (g.8 == zC (Row.mk (bCells y.3) false (Ob.cells true)) y.4 (16384 : Int) y.6 (Row.mk
  (List.take ((Int.toNat (↑g.2 : Int) - Int.toNat (↑y.2 : Int)) * 1) (List.drop (0 + Int.toNat (↑y.2 : Int) * 1) (bCells g.1))) true (Ob.cells true)) && true)) (br
  (Int.ofNat g.6 == Int.ofNat (zN (Row.mk (bCells y.3) false (Ob.cells true)) y.4 (16384 : Int) y.6 (Row.mk (List.take ((Int.toNat (↑g.2 : Int) - Int.toNat (↑y.2 : Int)) *
  1) (List.drop (0 + Int.toNat (↑y.2 : Int) * 1) (bCells g.1))) true (Ob.cells true)))) (((True /\ (True /\ (True /\ True)))) /\ ((true = true) /\ ((Eq (α := List Value)
  (bCells b) (bCells g.1)) /\ ((Plain (bCells b)) /\ ((Eq (α := List Value) (iCells IntKind.i64 c) (iCells IntKind.i64 g.3)) /\ ((Plain (iCells IntKind.i64 c)) /\ True))))))
  ((true = false) /\ ((Eq (α := List Value) (bCells b) (bCells g.1)) /\ ((Plain (bCells b)) /\ ((Eq (α := List Value) (iCells IntKind.i64 c) (iCells IntKind.i64 g.3)) /\
  ((Plain (iCells IntKind.i64 c)) /\ True)))))) ((true = false) /\ ((Eq (α := List Value) (bCells b) (bCells g.1)) /\ ((Plain (bCells b)) /\ ((Eq (α := List Value) (iCells
  IntKind.i64 c) (iCells IntKind.i64 g.3)) /\ ((Plain (iCells IntKind.i64 c)) /\ True)))))) ((true = false) /\ ((Eq (α := List Value) (bCells b) (bCells g.1)) /\ ((Plain
  (bCells b)) /\ ((Eq (α := List Value) (iCells IntKind.i64 c) (iCells IntKind.i64 g.3)) /\ ((Plain (iCells IntKind.i64 c)) /\ True)))))))))) False) False) False))
  False))))))))))))))))))))))))))))))))))))))))))))))))) := by kernel_rfl
theorem tA_ok : ∀ x ∈ tA, EntOk Try.prog x := all_cons eWiF_ok (all_cons eRunF_ok (all_cons eFeed_ok (all_cons eSameF_ok (all_nil))))
theorem A_piece : PieceOk EtA 2 (6, pA, specA) := by
  refine piece_loop mixed (calls_envT tA_ok) (lok_envT _ _) lm_none (n := 60) (by kernel_rfl) (fun _ : Ga => s0) (fun g s => InvA g s) (fun g s => g.c.length - s.i) (sl := slA) (rl := rlA) (fun g hg => ⟨Nat.zero_le _, Nat.zero_le _, ⟨[], 0, false⟩, ⟨rfl, rfl, rfl, rfl, rfl⟩, fed_nil _⟩) (fun g s hg hi => ?_)
  obtain ⟨g1, g2, g3⟩ := hg
  have hinv := hi
  obtain ⟨h1, h2, r, ⟨q1, q2, q3, q4, q5⟩, hf⟩ := hi
  refine (A_round g s _ _).mpr ?_
  refine br_if (fun hlt => ?_) (fun hlt => ?_)
  · refine br_if (fun hlt4 => ?_) (fun hlt4 => ?_)
    · have hic : s.i < g.c.length := by have : (s.i : Int) < (g.c.length : Int) := hlt; omega
      have hc : (iCells IntKind.i64 g.c)[s.i]? = some (.int .i64 g.c[s.i]) := by simp [iCells, hic]
      have hcc := cI_of hc
      have hI : I64 g.c[s.i] := Sy.wf64 (g3 _ (List.getElem_mem hic))
      obtain ⟨i1, i2⟩ := Go.Proofs.Ytkeiogmapogpnaa.tk.inside_in g.c[s.i] s.fr g.n (by omega)
      obtain ⟨T, hT⟩ := Int.eq_ofNat_of_zero_le (show 0 ≤ Go.Proofs.Ytkeiogmapogpnaa.tk.inside g.c[s.i] s.fr g.n by omega)
      rw [hT] at i1 i2
      simp (disch := omega) only [ofNat_eq, toNat_cast, Nat.zero_add, Nat.add_zero, Nat.mul_one, List.drop_zero, bCells_len, bCells_drop, bCells_take, bCells_app, bCells_one, bCells_plain, List.length_replicate, List.length_append, List.length_take, List.length_drop, List.take_length, and_true, true_and, and_self, decide_true, List.length_nil, List.length_cons, Nat.sub_zero, dB_mk, dB_ro, List.take_zero, toNat_cast, hcc, hc, hT, q1, q2, q3, q4, q5, brD, Int.ofNat_eq_natCast]
      obtain ⟨p, hp⟩ : ∃ p, p = List.take (T - s.fr) (List.drop s.fr g.b) := ⟨_, rfl⟩
      have hpl : p.length = T - s.fr := by rw [hp, List.length_take, List.length_drop]; omega
      have hxx : g.x.take T = g.x.take s.fr ++ p := by
        have e : T = s.fr + (T - s.fr) := by omega
        unfold Ga.x
        rw [List.take_take, List.take_take, Nat.min_eq_left (by omega), Nat.min_eq_left h2, hp]
        conv => lhs; rw [e, List.take_add]
      have hl0 : (g.x.take s.fr).length ≤ s.fr := by rw [List.length_take]; exact Nat.min_le_left _ _
      obtain ⟨f1, f2⟩ := fed_more (p := p) hf
      have f3 := (fed_len f1).1
      rw [List.length_append, List.length_append, hpl] at f3
      have f4 := hf.2.1
      obtain ⟨e1, e2, e3, e4, e5, e6, e7⟩ := z_feed r 16384 p
      simp only [← hp, e1, e2, e3, e4, e5, e6, e7]
      refine ⟨⟨hI, by omega, by omega, by omega⟩, ⟨by omega, enG_pl _, ⟨r, p, rfl, rfl, rfl, rfl, rfl, hf.1, rfl, hpl.symm, by omega⟩⟩, br_dec (by rw [gC_len enG_k]; exact Nat.le_refl _) (br_b (by rw [gC_take enG_k]; exact gC_one (fun _ => rfl) _) (br_dec (by omega) (br_dec (by rw [gC_len enG_k]; omega) (br_dec (by rw [gC_len enG_k]; exact Nat.le_refl _)
        ⟨⟨s.i + 1, T, (fdS 16384 r p).x, (fdS 16384 r p).k, (fdS 16384 r p).x.length - (fdS 16384 r p).k, scB (fdB 16384 r p), coB (fdB 16384 r p), s.l ++ fdL 16384 r p⟩, ⟨by simp only; omega, by simp only; omega, fdS 16384 r p, ⟨rfl, rfl, rfl, congrArg scB f2.symm, congrArg coB f2.symm⟩, by simp only; rw [hxx]; exact f1⟩, by simp only; omega, by simp only [List.length_append], rfl, (i64_succ (by omega)).symm, iCells_plain _ _, rfl, rfl, rfl, rfl, enG_pl _, rfl, rfl, rfl, ?_, enG_pl _⟩))))⟩
      simp only
      rw [List.take_of_length_le (by rw [gC_len enG_k]; exact Nat.le_refl _), List.take_of_length_le (by rw [gC_len enG_k]; exact Nat.le_refl _), gC_app]
    · refine ⟨s, hinv, ?_⟩
      simp [bCells_plain, iCells_plain, enG_pl]
  · refine ⟨s, hinv, ?_⟩
    simp [bCells_plain, iCells_plain, enG_pl]
theorem A_law (b : List UInt8) (c : List Int) (hb : b.length ≤ maxLen) (hc : c.length ≤ maxLen) (hw : ∀ x ∈ c, (Lit.int .i64 x).wf = true) : Con Try.prog 6 [slc 0 b.length, slc 1 c.length] [bRo b, iRo .i64 c] (.bool true) [bRo b, iRo .i64 c] := by
  refine con_vc (E := EtA) mixed (calls_envT tA_ok) (lok_envT _ _) (M := mA) (lm_one A_piece) (A_vc b c) ?_
  simp only [ofNat_eq, toNat_cast, Nat.zero_add, Nat.add_zero, Nat.mul_one, List.drop_zero, bCells_len, bCells_drop, bCells_take, bCells_app, bCells_one, bCells_plain, List.length_replicate, List.length_append, List.length_take, List.length_drop, List.take_length, and_true, true_and, and_self, decide_true, List.length_nil, List.length_cons, Nat.sub_zero, dB_mk, dB_ro, List.take_zero]
  refine br_if (fun h => ?_) (fun h => ?_)
  · obtain ⟨e1, e2, e3, e4, e5, e6, e7⟩ := z_new 16384 (b.take 800)
    simp only [e1, e2, e3, e4, e5, e6, e7]
    obtain ⟨g, hg⟩ : ∃ g : Ga, g = ⟨b, 800, c, (fdS 16384 ⟨[], 0, false⟩ (b.take 800)).x, (fdS 16384 ⟨[], 0, false⟩ (b.take 800)).k, (fdS 16384 ⟨[], 0, false⟩ (b.take 800)).x.length - (fdS 16384 ⟨[], 0, false⟩ (b.take 800)).k, scB (fdB 16384 ⟨[], 0, false⟩ (b.take 800)), coB (fdB 16384 ⟨[], 0, false⟩ (b.take 800)), fdL 16384 ⟨[], 0, false⟩ (b.take 800)⟩ := ⟨_, rfl⟩
    have gx : g.x = (b.take 800) := by rw [hg]; unfold Ga.x; simp
    have gok : GaOk g := by rw [hg]; exact ⟨by simp only; omega, by simp only; omega, hw⟩
    have w1 : g.wx = (fdS 16384 ⟨[], 0, false⟩ g.x).x := by rw [gx, hg]
    have w2 : g.wk = (fdS 16384 ⟨[], 0, false⟩ g.x).k := by rw [gx, hg]
    have w3 : g.wn = (fdS 16384 ⟨[], 0, false⟩ g.x).x.length - (fdS 16384 ⟨[], 0, false⟩ g.x).k := by rw [gx, hg]
    have w4 : g.w1 = scB (fdB 16384 ⟨[], 0, false⟩ g.x) := by rw [gx, hg]
    have w5 : g.w2 = coB (fdB 16384 ⟨[], 0, false⟩ g.x) := by rw [gx, hg]
    have w6 : g.wl = fdL 16384 ⟨[], 0, false⟩ g.x := by rw [gx, hg]
    refine br_dec (by omega) ⟨⟨by omega, enG_pl _, isB_mk _ _ (by first | rfl | (rw [List.length_take]; omega)), by omega⟩, ⟨g, gok, by rw [hg], by rw [hg], by rw [hg], by rw [hg], by rw [hg], iCells_plain _ _, by rw [hg], by rw [hg], by rw [hg], by rw [hg], by rw [hg], by rw [hg], enG_pl _, by rw [hg], by rw [hg], fun y hy => ?_⟩⟩
    clear e1 e2 e3 e4 e5 e6 e7
    obtain ⟨g1, g2, g3⟩ := gok
    obtain ⟨h1, h2, r, ⟨q1, q2, q3, q4, q5⟩, hf⟩ := hy
    obtain ⟨p, hp⟩ : ∃ p, p = List.take (g.n - y.fr) (List.drop y.fr g.b) := ⟨_, rfl⟩
    have hpl : p.length = g.n - y.fr := by rw [hp, List.length_take, List.length_drop]; omega
    have hxx : g.x = g.x.take y.fr ++ p := by
      have e : g.n = y.fr + (g.n - y.fr) := by omega
      unfold Ga.x
      rw [List.take_take, Nat.min_eq_left h2, hp]
      conv => lhs; rw [e, List.take_add]
    have hl0 : (g.x.take y.fr).length ≤ y.fr := by rw [List.length_take]; exact Nat.min_le_left _ _
    obtain ⟨f1, f2⟩ := fed_more (p := p) hf
    rw [← hxx] at f1
    have hxl : g.x.length = g.n := by unfold Ga.x; rw [List.length_take]; omega
    obtain ⟨t1, t2⟩ := fed_more (p := g.x) (fed_nil 16384)
    rw [List.nil_append, List.nil_append] at t1
    have f3 := (fed_len f1).1
    have f4 := hf.2.1
    obtain ⟨u1, u2, u3⟩ := f1.2.2 _ (Nat.le_refl _)
    obtain ⟨v1, v2, v3⟩ := t1.2.2 _ (Nat.le_refl _)
    have hbad : fdB 16384 r p = fdB 16384 ⟨[], 0, false⟩ g.x := by rw [← f2, ← t2, u1, v1]
    have hll : y.l ++ fdL 16384 r p = fdL 16384 ⟨[], 0, false⟩ g.x := by rw [u2, v2]
    have hlf : (fdS 16384 r p).x.length - (fdS 16384 r p).k = (fdS 16384 ⟨[], 0, false⟩ g.x).x.length - (fdS 16384 ⟨[], 0, false⟩ g.x).k := by
      cases hB : fdB 16384 ⟨[], 0, false⟩ g.x with
      | true => rw [f1.1.2 (by rw [f2, hbad, hB]), t1.1.2 (by rw [t2, hB])]; simp only [List.length_nil, Nat.zero_sub]
      | false =>
        have a1 := u3 (by rw [f2, hbad, hB])
        have a2 := v3 (by rw [t2, hB])
        unfold lf at a1 a2
        rw [← List.length_drop, ← List.length_drop, a1, a2]
    obtain ⟨e1, e2, e3, e4, e5, e6, e7⟩ := z_feed r 16384 p
    simp only [← hp, q1, q2, q3, q4, q5, e1, e2, e3, e4, e5, e6, e7, w1, w2, w3, w4, w5, w6]
    have tk : ∀ l : List Bf, List.take (l.length * 4) (gC enG l) = gC enG l := fun l => List.take_of_length_le (by rw [gC_len enG_k]; exact Nat.le_refl _)
    have hlen : y.l.length + (fdL 16384 r p).length = (fdL 16384 ⟨[], 0, false⟩ g.x).length := by rw [← hll, List.length_append]
    obtain ⟨f5, f6⟩ := fed_len t1
    have f7 : ∀ f ∈ fdL 16384 ⟨[], 0, false⟩ g.x, f.p.length ≤ 16777216 := fun f hf => Nat.le_trans (f6 f hf) (by omega)
    simp only [tk, gC_app, hll, gC_len enG_k, Nat.min_self]
    simp only [hlen, tk]
    refine br_dec (by omega) ⟨⟨by omega, enG_pl _, ⟨r, p, rfl, rfl, rfl, rfl, rfl, hf.1, rfl, hpl.symm, by omega⟩⟩, br_dec (Nat.le_refl _) (br_b (gC_one (fun _ => rfl) _) (br_dec (by omega) (br_dec (by omega) (br_dec (Nat.le_refl _) ⟨⟨⟨⟨by omega, enG_pl _⟩, Nat.le_refl _, enG_pl _⟩, isF_mk rfl f7, isF_mk rfl f7, by omega⟩, br_b (zF_same _) (br_b (by rw [hbad]; simp) (br_b (by rw [hlf]; simp) ⟨by rw [hg], by rw [hg], iCells_plain _ _⟩))⟩))))⟩
  · obtain ⟨e1, e2, e3, e4, e5, e6, e7⟩ := z_new 16384 b
    simp only [e1, e2, e3, e4, e5, e6, e7]
    obtain ⟨g, hg⟩ : ∃ g : Ga, g = ⟨b, b.length, c, (fdS 16384 ⟨[], 0, false⟩ b).x, (fdS 16384 ⟨[], 0, false⟩ b).k, (fdS 16384 ⟨[], 0, false⟩ b).x.length - (fdS 16384 ⟨[], 0, false⟩ b).k, scB (fdB 16384 ⟨[], 0, false⟩ b), coB (fdB 16384 ⟨[], 0, false⟩ b), fdL 16384 ⟨[], 0, false⟩ b⟩ := ⟨_, rfl⟩
    have gx : g.x = b := by rw [hg]; unfold Ga.x; simp
    have gok : GaOk g := by rw [hg]; exact ⟨by simp only; omega, by simp only; omega, hw⟩
    have w1 : g.wx = (fdS 16384 ⟨[], 0, false⟩ g.x).x := by rw [gx, hg]
    have w2 : g.wk = (fdS 16384 ⟨[], 0, false⟩ g.x).k := by rw [gx, hg]
    have w3 : g.wn = (fdS 16384 ⟨[], 0, false⟩ g.x).x.length - (fdS 16384 ⟨[], 0, false⟩ g.x).k := by rw [gx, hg]
    have w4 : g.w1 = scB (fdB 16384 ⟨[], 0, false⟩ g.x) := by rw [gx, hg]
    have w5 : g.w2 = coB (fdB 16384 ⟨[], 0, false⟩ g.x) := by rw [gx, hg]
    have w6 : g.wl = fdL 16384 ⟨[], 0, false⟩ g.x := by rw [gx, hg]
    refine ⟨⟨by omega, enG_pl _, isB_mk _ _ (by first | rfl | (rw [List.length_take]; omega)), by omega⟩, ⟨g, gok, by rw [hg], by rw [hg], by rw [hg], by rw [hg], by rw [hg], iCells_plain _ _, by rw [hg], by rw [hg], by rw [hg], by rw [hg], by rw [hg], by rw [hg], enG_pl _, by rw [hg], by rw [hg], fun y hy => ?_⟩⟩
    clear e1 e2 e3 e4 e5 e6 e7
    obtain ⟨g1, g2, g3⟩ := gok
    obtain ⟨h1, h2, r, ⟨q1, q2, q3, q4, q5⟩, hf⟩ := hy
    obtain ⟨p, hp⟩ : ∃ p, p = List.take (g.n - y.fr) (List.drop y.fr g.b) := ⟨_, rfl⟩
    have hpl : p.length = g.n - y.fr := by rw [hp, List.length_take, List.length_drop]; omega
    have hxx : g.x = g.x.take y.fr ++ p := by
      have e : g.n = y.fr + (g.n - y.fr) := by omega
      unfold Ga.x
      rw [List.take_take, Nat.min_eq_left h2, hp]
      conv => lhs; rw [e, List.take_add]
    have hl0 : (g.x.take y.fr).length ≤ y.fr := by rw [List.length_take]; exact Nat.min_le_left _ _
    obtain ⟨f1, f2⟩ := fed_more (p := p) hf
    rw [← hxx] at f1
    have hxl : g.x.length = g.n := by unfold Ga.x; rw [List.length_take]; omega
    obtain ⟨t1, t2⟩ := fed_more (p := g.x) (fed_nil 16384)
    rw [List.nil_append, List.nil_append] at t1
    have f3 := (fed_len f1).1
    have f4 := hf.2.1
    obtain ⟨u1, u2, u3⟩ := f1.2.2 _ (Nat.le_refl _)
    obtain ⟨v1, v2, v3⟩ := t1.2.2 _ (Nat.le_refl _)
    have hbad : fdB 16384 r p = fdB 16384 ⟨[], 0, false⟩ g.x := by rw [← f2, ← t2, u1, v1]
    have hll : y.l ++ fdL 16384 r p = fdL 16384 ⟨[], 0, false⟩ g.x := by rw [u2, v2]
    have hlf : (fdS 16384 r p).x.length - (fdS 16384 r p).k = (fdS 16384 ⟨[], 0, false⟩ g.x).x.length - (fdS 16384 ⟨[], 0, false⟩ g.x).k := by
      cases hB : fdB 16384 ⟨[], 0, false⟩ g.x with
      | true => rw [f1.1.2 (by rw [f2, hbad, hB]), t1.1.2 (by rw [t2, hB])]; simp only [List.length_nil, Nat.zero_sub]
      | false =>
        have a1 := u3 (by rw [f2, hbad, hB])
        have a2 := v3 (by rw [t2, hB])
        unfold lf at a1 a2
        rw [← List.length_drop, ← List.length_drop, a1, a2]
    obtain ⟨e1, e2, e3, e4, e5, e6, e7⟩ := z_feed r 16384 p
    simp only [← hp, q1, q2, q3, q4, q5, e1, e2, e3, e4, e5, e6, e7, w1, w2, w3, w4, w5, w6]
    have tk : ∀ l : List Bf, List.take (l.length * 4) (gC enG l) = gC enG l := fun l => List.take_of_length_le (by rw [gC_len enG_k]; exact Nat.le_refl _)
    have hlen : y.l.length + (fdL 16384 r p).length = (fdL 16384 ⟨[], 0, false⟩ g.x).length := by rw [← hll, List.length_append]
    obtain ⟨f5, f6⟩ := fed_len t1
    have f7 : ∀ f ∈ fdL 16384 ⟨[], 0, false⟩ g.x, f.p.length ≤ 16777216 := fun f hf => Nat.le_trans (f6 f hf) (by omega)
    simp only [tk, gC_app, hll, gC_len enG_k, Nat.min_self]
    simp only [hlen, tk]
    refine br_dec (by omega) ⟨⟨by omega, enG_pl _, ⟨r, p, rfl, rfl, rfl, rfl, rfl, hf.1, rfl, hpl.symm, by omega⟩⟩, br_dec (Nat.le_refl _) (br_b (gC_one (fun _ => rfl) _) (br_dec (by omega) (br_dec (by omega) (br_dec (Nat.le_refl _) ⟨⟨⟨⟨by omega, enG_pl _⟩, Nat.le_refl _, enG_pl _⟩, isF_mk rfl f7, isF_mk rfl f7, by omega⟩, br_b (zF_same _) (br_b (by rw [hbad]; simp) (br_b (by rw [hlf]; simp) ⟨by rw [hg], by rw [hg], iCells_plain _ _⟩))⟩))))⟩
end Go.Proofs.Ytkeiogmapogpnaa.fe
