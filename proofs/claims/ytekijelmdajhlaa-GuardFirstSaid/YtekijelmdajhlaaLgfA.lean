/- GuardFirst: what one of its functions does. -/
import Derived.Test.YtekijelmdajhlaaSz9
import Derived.Test.YtekijelmdajhlaaRows
import Derived.Test.YtekijelmdajhlaaLshG
set_option linter.unusedSimpArgs false
set_option linter.unusedVariables false
namespace Go.Proofs.Ytekijelmdajhlaa.gp
open Go Go.Ev Go.Sy Go.RowKit Go.Proofs.Ytekijelmdajhlaa.gl Go.Proofs.Ytekijelmdajhlaa.tk Go.Proofs.Ytekijelmdajhlaa.ic Go.Proofs.Ytekijelmdajhlaa.gm
noncomputable def enR (l : List Ac) : List Value := [.slice (some ⟨gCode (gC enA l), 0, some 0⟩) l.length 5]
noncomputable def decR : List Value → List (List Ac)
  | .slice (some ⟨z, _, _⟩) _ _ :: r => decA (gCells z) :: decR r
  | _ => []
noncomputable def sbR (rr : List (List Ac)) (i : Nat) : List Ac := (rr.getD i []).take 12
noncomputable def sbV (r : Row) (i : Int) : List Ac := sbR (decR r.cells) i.toNat
noncomputable def vOk : Row → Int → Bool := Classical.choose (exZ fun (r : Row) (i : Int) => decide ((tl (sbV r i)).how = 0))
noncomputable def vRt : Row → Int → Bool := Classical.choose (exZ fun (r : Row) (i : Int) => decide ((tl (sbV r i)).how = 2))
noncomputable def vCode : Row → Int → Int := Classical.choose (exZ fun (r : Row) (i : Int) => (tl (sbV r i)).code)
noncomputable def vPos : Row → Int → Int := Classical.choose (exZ fun (r : Row) (i : Int) => (tl (sbV r i)).pos)
noncomputable def vDep : Row → Int → Int := Classical.choose (exZ fun (r : Row) (i : Int) => ((tl (sbV r i)).dep : Int))
noncomputable def vNs : Row → Int → List Int := Classical.choose (exZ fun (r : Row) (i : Int) => (tl (sbV r i)).ns)
noncomputable def vLn : Row → Int → Nat := Classical.choose (exZ fun (r : Row) (i : Int) => (tl (sbV r i)).ns.length)
def OkR (l : List Ac) : Prop := l.length ≤ maxLen ∧ ∀ a ∈ l, OkA a
def IsF (r : Row) (n : Nat) (i : Int) (m : Nat) : Prop := ∃ rr, r = gRo enR rr ∧ 0 ≤ i ∧ i < (n : Nat) ∧ n ≤ rr.length ∧ (∀ l ∈ rr, OkR l) ∧ m ≤ 1000000
def rbF (n : Nat) (i : Int) (m q : Nat) : List (Nat × Row) := [(0, ⟨[.slice (some ⟨3, 0, none⟩) n 1], false, .cells false⟩), (1, ⟨[.int .i64 i], false, .cells false⟩), (2, ⟨[.slice (some ⟨q, 0, none⟩) m 1], false, .cells false⟩)]
noncomputable def eF1 : EntM := (29, fun a r => match a, r with
  | [.pointer (some ⟨0, 0, none⟩), .pointer (some ⟨1, 0, none⟩), .pointer (some ⟨2, 0, none⟩)], [⟨[.slice (some ⟨3, 0, none⟩) n 1], false, .cells false⟩, ⟨[.int .i64 i], false, .cells false⟩, ⟨[.slice (some ⟨4, 0, none⟩) m 1], false, .cells false⟩, r3, ⟨c4, false, .cells true⟩] =>
    some (IsF r3 n i m ∧ IsZ ⟨c4, false, .cells true⟩ m, mkP (vOk r3 i) (vCode r3 i) (vPos r3 i) (vRt r3 i) (vDep r3 i), 6, rbF n i (m + vLn r3 i) 5 ++ [(5, iOwn .i64 (dI ⟨c4, false, .cells true⟩ ++ vNs r3 i))])
  | _, _ => none)
noncomputable def tF1 : List EntM := [ePl 41]
noncomputable abbrev EF1 : Env := envTd Try.prog tF1 (fun _ => [])
theorem F1_vc (rr : List (List Ac)) (n : Nat) (z o : List Int) (i : Int) (ok : Bool) (c p : Int) (d : Bool) (e : Int) : mcall EF1 noM 60 29 [.pointer (some ⟨0, 0, none⟩), .pointer (some ⟨1, 0, none⟩), .pointer (some ⟨2, 0, none⟩)] ⟨mkR (nums 0 [⟨[.slice (some ⟨3, 0, none⟩) n 1], false, .cells false⟩, ⟨[.int .i64 i], false, .cells false⟩, ⟨[.slice (some ⟨4, 0, none⟩) z.length 1], false, .cells false⟩, gRo enR rr, iOwn .i64 z]), 5⟩ (retIsM 5 (mkP ok c p d e) 6 (rbF n i o.length 5 ++ [(5, iOwn .i64 o)])) =
  (br (decide ((0 : Int) <= i /\ i < (↑n : Int))) ((Eq (α := Option Value) ((gC enR rr)[0 + Int.toNat i * 1]?) (some (Value.slice (some (Addr.mk (cellZ (gC enR rr) (0 +
  Int.toNat i * 1)) (cellO (gC enR rr) (0 + Int.toNat i * 1)) (some 0))) (cellN (gC enR rr) (0 + Int.toNat i * 1)) 5))) /\ (br (decide (Int.ofNat (cellN (gC enR rr) (0 +
  Int.toNat i * 1)) > (12 : Int))) (br (decide ((0 : Int) <= (↑0 : Int) /\ (↑0 : Int) <= (12 : Int) /\ (12 : Int) <= (↑(cellN (gC enR rr) (0 + Int.toNat i * 1)) : Int)))
  ((((cellO (gC enR rr) (0 + Int.toNat i * 1) + 0 + 60 <= List.length (gCells (cellZ (gC enR rr) (0 + Int.toNat i * 1))) /\ (True /\ True)) /\ ((True /\ ((True /\ True) /\
  (Plain (iCells IntKind.i64 z) /\ True))) /\ ((Plain (iCells IntKind.i64 (dI (Row.mk (iCells IntKind.i64 z) false (Ob.cells true)) ++ tNs (Row.mk (List.take 60 (List.drop
  (cellO (gC enR rr) (0 + Int.toNat i * 1) + 0) (gCells (cellZ (gC enR rr) (0 + Int.toNat i * 1))))) true (Ob.cells true)))) /\ True) /\ (IsA 41 (Row.mk (List.take 60
  (List.drop (cellO (gC enR rr) (0 + Int.toNat i * 1) + 0) (gCells (cellZ (gC enR rr) (0 + Int.toNat i * 1))))) true (Ob.cells true)) 12 (List.length z) /\ IsZ (Row.mk
  (iCells IntKind.i64 z) false (Ob.cells true)) (List.length z)))))) /\ (br (tOk (Row.mk (List.take 60 (List.drop (cellO (gC enR rr) (0 + Int.toNat i * 1) + 0) (gCells
  (cellZ (gC enR rr) (0 + Int.toNat i * 1))))) true (Ob.cells true))) ((ok = true) /\ ((0 = 0) /\ ((n = n) /\ ((i = i) /\ ((0 = 0) /\ ((List.length o = List.length z + tLn
  (Row.mk (List.take 60 (List.drop (cellO (gC enR rr) (0 + Int.toNat i * 1) + 0) (gCells (cellZ (gC enR rr) (0 + Int.toNat i * 1))))) true (Ob.cells true))) /\ ((Eq (α :=
  List Value) (iCells IntKind.i64 o) (iCells IntKind.i64 (dI (Row.mk (iCells IntKind.i64 z) false (Ob.cells true)) ++ tNs (Row.mk (List.take 60 (List.drop (cellO (gC enR rr)
  (0 + Int.toNat i * 1) + 0) (gCells (cellZ (gC enR rr) (0 + Int.toNat i * 1))))) true (Ob.cells true))))) /\ ((Plain (iCells IntKind.i64 o)) /\ True)))))))) (br (tRt
  (Row.mk (List.take 60 (List.drop (cellO (gC enR rr) (0 + Int.toNat i * 1) + 0) (gCells (cellZ (gC enR rr) (0 + Int.toNat i * 1))))) true (Ob.cells true))) ((ok = false) /\
  ((d = true) /\ (((10 = 10 /\ (dS = dS /\ Eq (α := List PanicEntry) (reps 10 dS (Int.toNat (tDep (Row.mk (List.take 60 (List.drop (cellO (gC enR rr) (0 + Int.toNat i * 1) +
  0) (gCells (cellZ (gC enR rr) (0 + Int.toNat i * 1))))) true (Ob.cells true))))) (reps 10 dS (Int.toNat e))))) /\ ((0 = 0) /\ ((n = n) /\ ((i = i) /\ ((0 = 0) /\
  ((List.length o = List.length z + tLn (Row.mk (List.take 60 (List.drop (cellO (gC enR rr) (0 + Int.toNat i * 1) + 0) (gCells (cellZ (gC enR rr) (0 + Int.toNat i * 1)))))
  true (Ob.cells true))) /\ ((Eq (α := List Value) (iCells IntKind.i64 o) (iCells IntKind.i64 (dI (Row.mk (iCells IntKind.i64 z) false (Ob.cells true)) ++ tNs (Row.mk
  (List.take 60 (List.drop (cellO (gC enR rr) (0 + Int.toNat i * 1) + 0) (gCells (cellZ (gC enR rr) (0 + Int.toNat i * 1))))) true (Ob.cells true))))) /\ ((Plain (iCells
  IntKind.i64 o)) /\ True)))))))))) ((ok = false) /\ ((d = false) /\ (((23 = 23 /\ (c = tCode (Row.mk (List.take 60 (List.drop (cellO (gC enR rr) (0 + Int.toNat i * 1) + 0)
  (gCells (cellZ (gC enR rr) (0 + Int.toNat i * 1))))) true (Ob.cells true)) /\ p = tPos (Row.mk (List.take 60 (List.drop (cellO (gC enR rr) (0 + Int.toNat i * 1) + 0)
  (gCells (cellZ (gC enR rr) (0 + Int.toNat i * 1))))) true (Ob.cells true))))) /\ ((0 = 0) /\ ((n = n) /\ ((i = i) /\ ((0 = 0) /\ ((List.length o = List.length z + tLn
  (Row.mk (List.take 60 (List.drop (cellO (gC enR rr) (0 + Int.toNat i * 1) + 0) (gCells (cellZ (gC enR rr) (0 + Int.toNat i * 1))))) true (Ob.cells true))) /\ ((Eq (α :=
  List Value) (iCells IntKind.i64 o) (iCells IntKind.i64 (dI (Row.mk (iCells IntKind.i64 z) false (Ob.cells true)) ++ tNs (Row.mk (List.take 60 (List.drop (cellO (gC enR rr)
  (0 + Int.toNat i * 1) + 0) (gCells (cellZ (gC enR rr) (0 + Int.toNat i * 1))))) true (Ob.cells true))))) /\ ((Plain (iCells IntKind.i64 o)) /\ True))))))))))))) False)
  ((((cellO (gC enR rr) (0 + Int.toNat i * 1) + cellN (gC enR rr) (0 + Int.toNat i * 1) * 5 <= List.length (gCells (cellZ (gC enR rr) (0 + Int.toNat i * 1))) /\ (True /\
  True)) /\ ((True /\ ((True /\ True) /\ (Plain (iCells IntKind.i64 z) /\ True))) /\ ((Plain (iCells IntKind.i64 (dI (Row.mk (iCells IntKind.i64 z) false (Ob.cells true)) ++
  tNs (Row.mk (List.take (cellN (gC enR rr) (0 + Int.toNat i * 1) * 5) (List.drop (cellO (gC enR rr) (0 + Int.toNat i * 1)) (gCells (cellZ (gC enR rr) (0 + Int.toNat i *
  1))))) true (Ob.cells true)))) /\ True) /\ (IsA 41 (Row.mk (List.take (cellN (gC enR rr) (0 + Int.toNat i * 1) * 5) (List.drop (cellO (gC enR rr) (0 + Int.toNat i * 1))
  (gCells (cellZ (gC enR rr) (0 + Int.toNat i * 1))))) true (Ob.cells true)) (cellN (gC enR rr) (0 + Int.toNat i * 1)) (List.length z) /\ IsZ (Row.mk (iCells IntKind.i64 z)
  false (Ob.cells true)) (List.length z)))))) /\ (br (tOk (Row.mk (List.take (cellN (gC enR rr) (0 + Int.toNat i * 1) * 5) (List.drop (cellO (gC enR rr) (0 + Int.toNat i *
  1)) (gCells (cellZ (gC enR rr) (0 + Int.toNat i * 1))))) true (Ob.cells true))) ((ok = true) /\ ((0 = 0) /\ ((n = n) /\ ((i = i) /\ ((0 = 0) /\ ((List.length o =
  List.length z + tLn (Row.mk (List.take (cellN (gC enR rr) (0 + Int.toNat i * 1) * 5) (List.drop (cellO (gC enR rr) (0 + Int.toNat i * 1)) (gCells (cellZ (gC enR rr) (0 +
  Int.toNat i * 1))))) true (Ob.cells true))) /\ ((Eq (α := List Value) (iCells IntKind.i64 o) (iCells IntKind.i64 (dI (Row.mk (iCells IntKind.i64 z) false (Ob.cells true))
  ++ tNs (Row.mk (List.take (cellN (gC enR rr) (0 + Int.toNat i * 1) * 5) (List.drop (cellO (gC enR rr) (0 + Int.toNat i * 1)) (gCells (cellZ (gC enR rr) (0 + Int.toNat i *
  1))))) true (Ob.cells true))))) /\ ((Plain (iCells IntKind.i64 o)) /\ True)))))))) (br (tRt (Row.mk (List.take (cellN (gC enR rr) (0 + Int.toNat i * 1) * 5) (List.drop
  (cellO (gC enR rr) (0 + Int.toNat i * 1)) (gCells (cellZ (gC enR rr) (0 + Int.toNat i * 1))))) true (Ob.cells true))) ((ok = false) /\ ((d = true) /\ (((10 = 10 /\ (dS =
  dS /\ Eq (α := List PanicEntry) (reps 10 dS (Int.toNat (tDep (Row.mk (List.take (cellN (gC enR rr) (0 + Int.toNat i * 1) * 5) (List.drop (cellO (gC enR rr) (0 + Int.toNat
  i * 1)) (gCells (cellZ (gC enR rr) (0 + Int.toNat i * 1))))) true (Ob.cells true))))) (reps 10 dS (Int.toNat e))))) /\ ((0 = 0) /\ ((n = n) /\ ((i = i) /\ ((0 = 0) /\
  ((List.length o = List.length z + tLn (Row.mk (List.take (cellN (gC enR rr) (0 + Int.toNat i * 1) * 5) (List.drop (cellO (gC enR rr) (0 + Int.toNat i * 1)) (gCells (cellZ
  (gC enR rr) (0 + Int.toNat i * 1))))) true (Ob.cells true))) /\ ((Eq (α := List Value) (iCells IntKind.i64 o) (iCells IntKind.i64 (dI (Row.mk (iCells IntKind.i64 z) false
  (Ob.cells true)) ++ tNs (Row.mk (List.take (cellN (gC enR rr) (0 + Int.toNat i * 1) * 5) (List.drop (cellO (gC enR rr) (0 + Int.toNat i * 1)) (gCells (cellZ (gC enR rr) (0
  + Int.toNat i * 1))))) true (Ob.cells true))))) /\ ((Plain (iCells IntKind.i64 o)) /\ True)))))))))) ((ok = false) /\ ((d = false) /\ (((23 = 23 /\ (c = tCode (Row.mk
  (List.take (cellN (gC enR rr) (0 + Int.toNat i * 1) * 5) (List.drop (cellO (gC enR rr) (0 + Int.toNat i * 1)) (gCells (cellZ (gC enR rr) (0 + Int.toNat i * 1))))) true
  (Ob.cells true)) /\ p = tPos (Row.mk (List.take (cellN (gC enR rr) (0 + Int.toNat i * 1) * 5) (List.drop (cellO (gC enR rr) (0 + Int.toNat i * 1)) (gCells (cellZ (gC enR
  rr) (0 + Int.toNat i * 1))))) true (Ob.cells true))))) /\ ((0 = 0) /\ ((n = n) /\ ((i = i) /\ ((0 = 0) /\ ((List.length o = List.length z + tLn (Row.mk (List.take (cellN
  (gC enR rr) (0 + Int.toNat i * 1) * 5) (List.drop (cellO (gC enR rr) (0 + Int.toNat i * 1)) (gCells (cellZ (gC enR rr) (0 + Int.toNat i * 1))))) true (Ob.cells true))) /\
  ((Eq (α := List Value) (iCells IntKind.i64 o) (iCells IntKind.i64 (dI (Row.mk (iCells IntKind.i64 z) false (Ob.cells true)) ++ tNs (Row.mk (List.take (cellN (gC enR rr) (0
  + Int.toNat i * 1) * 5) (List.drop (cellO (gC enR rr) (0 + Int.toNat i * 1)) (gCells (cellZ (gC enR rr) (0 + Int.toNat i * 1))))) true (Ob.cells true))))) /\ ((Plain
  (iCells IntKind.i64 o)) /\ True))))))))))))))) False) := by kernel_rfl
theorem aG (l : List Ac) : gAll (gC enA l) = true := by
  induction l with
  | nil => rfl
  | cons a l ih => rw [gC_cons]; unfold gAll at *; rw [List.all_append, ih]; rfl
theorem dec_gR : ∀ rr : List (List Ac), decR (gC enR rr) = rr
  | [] => rfl
  | l :: rr => by
    rw [gC_cons]
    show decA (gCells (gCode (gC enA l))) :: decR (gC enR rr) = l :: rr
    rw [gCells_code (aG l), dec_gC, dec_gR rr]
theorem z_v (rr : List (List Ac)) (i : Nat) : vOk ⟨gC enR rr, true, .cells true⟩ i = decide ((tl (sbR rr i)).how = 0) ∧ vRt ⟨gC enR rr, true, .cells true⟩ i = decide ((tl (sbR rr i)).how = 2) ∧ vCode ⟨gC enR rr, true, .cells true⟩ i = (tl (sbR rr i)).code ∧ vPos ⟨gC enR rr, true, .cells true⟩ i = (tl (sbR rr i)).pos ∧ vDep ⟨gC enR rr, true, .cells true⟩ i = ((tl (sbR rr i)).dep : Nat) ∧ vNs ⟨gC enR rr, true, .cells true⟩ i = (tl (sbR rr i)).ns ∧ vLn ⟨gC enR rr, true, .cells true⟩ i = (tl (sbR rr i)).ns.length := by
  have h1 : vOk = _ := Classical.choose_spec (exZ fun (r : Row) (i : Int) => decide ((tl (sbV r i)).how = 0))
  have h2 : vRt = _ := Classical.choose_spec (exZ fun (r : Row) (i : Int) => decide ((tl (sbV r i)).how = 2))
  have h3 : vCode = _ := Classical.choose_spec (exZ fun (r : Row) (i : Int) => (tl (sbV r i)).code)
  have h4 : vPos = _ := Classical.choose_spec (exZ fun (r : Row) (i : Int) => (tl (sbV r i)).pos)
  have h5 : vDep = _ := Classical.choose_spec (exZ fun (r : Row) (i : Int) => ((tl (sbV r i)).dep : Int))
  have h6 : vNs = _ := Classical.choose_spec (exZ fun (r : Row) (i : Int) => (tl (sbV r i)).ns)
  have h7 : vLn = _ := Classical.choose_spec (exZ fun (r : Row) (i : Int) => (tl (sbV r i)).ns.length)
  have hs : sbV ⟨gC enR rr, true, .cells true⟩ (i : Nat) = sbR rr i := by unfold sbV; simp only [dec_gR, Int.toNat_natCast]
  rw [h1, h2, h3, h4, h5, h6, h7]
  simp only [hs]
  exact ⟨trivial, trivial, trivial, trivial, trivial, trivial, trivial⟩
theorem rLen (rr : List (List Ac)) : (gC enR rr).length = rr.length * 1 := gC_len (en := enR) (k := 1) (fun _ => rfl) rr
theorem rPl (rr : List (List Ac)) : Plain (gC enR rr) := gC_plain (fun a v hv => by simp only [enR, List.mem_cons, List.not_mem_nil, or_false] at hv; rcases hv with rfl; rfl) rr
theorem F1_con (rr : List (List Ac)) (n i : Nat) (z : List Int) (hi : i < n) (hn : n ≤ rr.length) (ho : ∀ l ∈ rr, OkR l) (hz : z.length ≤ 1000000) :
    ConM Try.prog 29 [.pointer (some ⟨0, 0, none⟩), .pointer (some ⟨1, 0, none⟩), .pointer (some ⟨2, 0, none⟩)] [⟨[.slice (some ⟨3, 0, none⟩) n 1], false, .cells false⟩, ⟨[.int .i64 (i : Nat)], false, .cells false⟩, ⟨[.slice (some ⟨4, 0, none⟩) z.length 1], false, .cells false⟩, gRo enR rr, iOwn .i64 z]
      (mkQ (sbR rr i)) 6 (rbF n (i : Nat) (z ++ (tl (sbR rr i)).ns).length 5 ++ [(5, iOwn .i64 (z ++ (tl (sbR rr i)).ns))]) := by
  have hc : CallsOk Try.prog (oOf EF1) := calls_envTd (all_cons (ePl_ok 41) all_nil)
  refine conM_vc (E := EF1) mixed hc (lok_envTd _ _ _) (M := noM) lm_none (F1_vc rr n z _ _ _ _ _ _ _) ?_
  have hir : i < rr.length := by omega
  have hl : rr.getD i [] = rr[i] := by rw [List.getD_eq_getElem?_getD, List.getElem?_eq_getElem hir]; rfl
  obtain ⟨o1, o2⟩ := ho _ (List.getElem_mem hir)
  have g0 := gC_get0 (en := enR) (k := 1) (fun _ => rfl) rr i hir (by omega)
  have hs : sbR rr i = rr[i].take 12 := by unfold sbR; rw [hl]
  rw [hs]
  generalize rr[i] = l at *
  have ez : cellZ (gC enR rr) i = gCode (gC enA l) := by unfold cellZ; rw [Nat.mul_one] at g0; rw [g0]; rfl
  have eo : cellO (gC enR rr) i = 0 := by unfold cellO; rw [Nat.mul_one] at g0; rw [g0]; rfl
  have en : cellN (gC enR rr) i = l.length := by unfold cellN; rw [Nat.mul_one] at g0; rw [g0]; rfl
  have g1 : (gC enR rr)[i]? = some (Value.slice (some ⟨gCode (gC enA l), 0, some 0⟩) l.length 5) := by rw [Nat.mul_one] at g0; exact g0
  have gc := gCells_code (aG l)
  have t12 : (gC enA l).take 60 = gC enA (l.take 12) := gC_take (en := enA) (k := 5) (fun _ => rfl) l 12
  have e4 : ∀ x : List Int, (iCells .i64 x).take x.length = iCells .i64 x := fun x => List.take_of_length_le (by rw [iCells_len]; omega)
  simp only [ofNat_eq, toNat_cast, Nat.zero_add, Nat.add_zero, Nat.mul_one, List.drop_zero, bCells_len, bCells_drop, bCells_take, bCells_app, bCells_one, bCells_plain, List.length_replicate, List.length_append, List.length_take, List.length_drop, List.take_length, and_true, true_and, and_self, decide_true, List.length_nil, List.length_cons, Nat.sub_zero, dB_mk, dB_ro, List.take_zero, Int.toNat_natCast, g1, ez, eo, en, gc, t12, aPl, aLen, iCells_plain, iCells_len, z_tOk, z_tRt, z_tHow, z_tDep, z_tLn, z_tNs, z_tCode, z_tPos, dI_mk]
  refine br_dec (by omega) (br_if (fun h => br_dec (by omega) ⟨⟨by omega, ⟨_, rfl, by rw [List.length_take]; omega, by rw [List.length_take]; omega, fun a h => o2 a (List.mem_of_mem_take h), by rw [List.length_take]; omega⟩, ⟨z, rfl, rfl⟩⟩, br_intro (fun o => o) (fun o => br_intro (fun o2 => ⟨o, o2⟩) (fun o2 => ⟨o, o2⟩))⟩) (fun h => ?_))
  have hl12 : l.length ≤ 12 := by omega
  have e1 : l.take 12 = l := List.take_of_length_le hl12
  have e2 : (gC enA l).take (l.length * 5) = gC enA l := List.take_of_length_le (by rw [aLen]; omega)
  rw [e1]
  simp only [e2, z_tOk, z_tRt, z_tHow, z_tDep, z_tLn, z_tNs, z_tCode, z_tPos, true_and, and_true, Int.toNat_natCast]
  exact ⟨⟨Nat.le_refl _, ⟨_, rfl, rfl, by omega, o2, by omega⟩, ⟨z, rfl, rfl⟩⟩, br_intro (fun o => o) (fun o => br_intro (fun o2 => ⟨o, o2⟩) (fun o2 => ⟨o, o2⟩))⟩
theorem eF1_ok : EntOk Try.prog eF1 := by
  intro a rows p v n' rl he hp
  simp only [eF1] at he
  split at he
  · rename_i n i m r3 c4
    simp only [Option.some.injEq, Prod.mk.injEq] at he
    obtain ⟨rfl, rfl, rfl, rfl⟩ := he
    obtain ⟨⟨rr, rfl, g1, g2, g3, g4, g5⟩, ⟨z, hz, rfl⟩⟩ := hp
    obtain ⟨i, rfl⟩ : ∃ j : Nat, i = (j : Int) := ⟨i.toNat, by omega⟩
    obtain ⟨u1, u2, u3, u4, u5, u6, u7⟩ := z_v rr i
    have := F1_con rr n i z (by omega) g3 g4 g5
    rw [hz]
    unfold gRo
    rw [u1, u2, u3, u4, u5, u6, u7]
    unfold iOwn
    rw [dI_mk]
    rw [List.length_append] at this
    exact this
  · simp at he
end Go.Proofs.Ytekijelmdajhlaa.gp
