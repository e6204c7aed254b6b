/- ShellWords: any text, any rows, of any bytes, come back from a line; a line has no byte but plain ones and blanks. -/
import Derived.Test.YtnbfhihibgdgpaaGreatDoorSz9
import Derived.Test.YtnbfhihibgdgpaaGreatDoorRows
import Derived.Test.YtnbfhihibgdgpaaGreatDoorLswG
import Derived.Test.YtnbfhihibgdgpaaGreatDoorLslE
import Derived.Test.YtnbfhihibgdgpaaGreatDoorLcySm
import Derived.Test.YtnbfhihibgdgpaaGreatDoorLwit
import Derived.Test.YtnbfhihibgdgpaaGreatDoorLlawShr
set_option maxRecDepth 20000
set_option linter.unusedSimpArgs false
set_option linter.unusedVariables false
namespace Go.Proofs.YtnbfhihibgdgpaaGreatDoor.sw
open Go Go.Ev Go.Sy Go.RowKit Go.Proofs.YtnbfhihibgdgpaaGreatDoor.gl Go.Proofs.YtnbfhihibgdgpaaGreatDoor.tk Go.Proofs.YtnbfhihibgdgpaaGreatDoor.sl Go.Proofs.YtnbfhihibgdgpaaGreatDoor.cr Go.Proofs.YtnbfhihibgdgpaaGreatDoor.sn
noncomputable def eWi : EntM := entC 12 fun a r => match a, r with
  | [.int .i64 n, .int .i64 lo, .int .i64 hi], [] => some (I64 n ∧ -1000000000000 ≤ lo ∧ hi ≤ 1000000000000 ∧ lo ≤ hi, .int .i64 (inside n lo hi), [])
  | _, _ => none
noncomputable def eSh : EntM := entC 3 fun a r => match a, r with
  | [], [] => some (True, .bool true, [])
  | _, _ => none
noncomputable def l6Z : Int → Int → Row → ByteArray → Bool → ByteArray := sl.sealV fun a c r t e => by
  classical exact if hh : ∃ l : List Rw, r.cells = gC enR l then bs (li6 ⟨6, a, 0, c, Classical.choose hh, L t, e⟩) else ⟨#[]⟩
def okL6 (a c : Int) (r : Row) (n : Nat) (t : ByteArray) : Prop := ∃ l : List Rw, r = gRo enR l ∧ n = l.length ∧ ∀ e, okG ⟨6, a, 0, c, l, L t, e⟩
noncomputable def eL6 : EntM := entC 6 fun a r => match a, r with
  | [.agg ⟨[.int .i64 (.ofNat 6), .int .i64 a, .int .i64 (.ofNat 0), .int .i64 c, .slice (some ⟨0, 0, none⟩) n 3, .string t, .bool e]⟩], [r0] => some (okL6 a c r0 n t, .string (l6Z a c r0 t e), [])
  | _, _ => none
def IsLn (s : ByteArray) : Prop := ∃ g, okP g ∧ s = bs (jn 32 g.p) ∧ (jn 32 g.p).length ≤ 65536
noncomputable def rwS (s : ByteArray) : Row := ⟨gC enS (spL s), false, .cells true⟩
noncomputable def paA : ByteArray → Int := sl.sealV fun s => pcA (rwS s)
noncomputable def paC : ByteArray → Int := sl.sealV fun s => pcC (rwS s)
noncomputable def paK : ByteArray → Nat := sl.sealV fun s => pcK (rwS s)
noncomputable def paL : ByteArray → List Rw := sl.sealV fun s => pcL (rwS s)
noncomputable def paT : ByteArray → ByteArray := sl.sealV fun s => pcT (rwS s)
noncomputable def paE : ByteArray → Bool := sl.sealV fun s => pcE (rwS s)
noncomputable def ePa : EntM := entC 8 fun a r => match a, r with
  | [.string s], [] => some (IsLn s, .tuple ⟨[.agg ⟨[.int .i64 6, .int .i64 (paA s), .int .i64 0, .int .i64 (paC s), .slice (some ⟨0, 0, none⟩) (paK s) 3, .string (paT s), .bool (paE s)]⟩, .int .i64 0]⟩, [gOwn enR (paL s)])
  | _, _ => none
noncomputable def tWd : List EntM := [eWi, eStp, eSh, eL6, ePa, cy.eSm]
noncomputable abbrev EtWd : Env := envT Tryz.prog tWd
def pW1 : List Nat := [0, 1, 0, 1, 1, 1]
def pW2 : List Nat := [0, 1, 0, 1, 1, 1, 1, 1]
def st6 (g : PG) : List Value := [.int .i64 6, .int .i64 g.a, .int .i64 0, .int .i64 g.c, slR 0 g.l.length, .string (bs g.t), .bool g.e]
noncomputable def rlW (g : PG) : List (Nat × Row) := [(0, gRo enR g.l), (1, ⟨st6 g, false, .cells false⟩)]
def slW1 (g : PG) (i : Nat) : List (Nat × Value) := [(3, slR 0 g.l.length), (11, .pointer (some ⟨1, 0, none⟩)), (12, .int .i64 (i : Nat))]
noncomputable def wsW1 (g : PG) : List (Gate Unit) := [⟨.exit 0, fun _ => ∀ r ∈ g.l, r.h ≠ -9223372036854775808, fun _ => [(11, .pointer (some ⟨1, 0, none⟩))], fun _ => rlW g, 2⟩, ⟨.ret, fun _ => True, fun _ => [(10, .bool true)], fun _ => [(0, gRo enR g.l)], 2⟩]
noncomputable def specW1 : Sy.Spec := specOf 1 2 84 (fun g : PG => g.l.length ≤ maxLen) (fun g => slW1 g 0) rlW wsW1
def slW2 (g : PG) (i : Nat) : List (Nat × Value) := [(11, .pointer (some ⟨1, 0, none⟩)), (13, .string (bs (jn 32 g.p))), (14, .int .i64 (i : Nat))]
noncomputable def wsW2 (g : PG) : List (Gate Unit) := [⟨.exit 2, fun _ => True, fun _ => [(11, .pointer (some ⟨1, 0, none⟩)), (13, .string (bs (jn 32 g.p)))], fun _ => rlW g, 2⟩]
noncomputable def specW2 : Sy.Spec := specOf 1 2 84 (fun g : PG => okP g ∧ (jn 32 g.p).length ≤ 65536) (fun g => slW2 g 0) rlW wsW2
noncomputable def mW := mOf [(5, pW1, specW1), (5, pW2, specW2)]
theorem W1_round (g : PG) (i : Nat) (Inv : Nat → Prop) (m : Nat → Nat) : mev EtWd noM 60 5 (0 :: pW1) false (codeOf Tryz.prog 5 (0 :: pW1)) ⟨mkOv (slW1 g i), 84, []⟩ none ⟨mkR (rlW g), 2⟩ (roundK 1 2 84 Inv m (slW1 g) (fun _ => rlW g) (wsW1 g) i) =
  (br (decide ((↑i : Int) < Int.ofNat (List.length g.5))) (br (decide ((0 : Int) <= (↑i : Int) /\ (↑i : Int) < (↑(List.length g.5) : Int))) ((Eq (α := Option Value) ((gC enR
  g.5)[0 + Int.toNat (↑i : Int) * 3 + 2]?) (some (Value.int IntKind.i64 (cellI (gC enR g.5) (0 + Int.toNat (↑i : Int) * 3 + 2))))) /\ (br (cellI (gC enR g.5) (0 + Int.toNat
  (↑i : Int) * 3 + 2) == (-9223372036854775808 : Int)) (((True /\ (True /\ (True /\ True)))) /\ (∃ y : Unit, ((True) /\ ((true = true) /\ ((Eq (α := List Value) (gC enR g.5)
  (gC enR g.5)) /\ ((Plain (gC enR g.5)) /\ True)))))) (∃ j : Nat, ((Inv j) /\ ((m j < m i) /\ ((0 = 0) /\ ((List.length g.5 = List.length g.5) /\ ((0 = 0) /\ (((↑j : Int) =
  IntKind.wrap IntKind.i64 ((↑i : Int) + (1 : Int))) /\ ((Eq (α := List Value) (gC enR g.5) (gC enR g.5)) /\ ((Plain (gC enR g.5)) /\ (((6 : Int) = (6 : Int)) /\ ((g.1 =
  g.1) /\ (((0 : Int) = (0 : Int)) /\ ((g.2 = g.2) /\ ((0 = 0) /\ ((List.length g.5 = List.length g.5) /\ ((bs g.4 = bs g.4) /\ ((g.3 = g.3) /\ True)))))))))))))))))))
  False) (∃ y : Unit, ((∀ (r : Rw), r ∈ PG.l g → Rw.h r ≠ (-9223372036854775808 : Int)) /\ ((0 = 0) /\ ((Eq (α := List Value) (gC enR g.5) (gC enR g.5)) /\ ((Plain (gC enR
  g.5)) /\ (((6 : Int) = (6 : Int)) /\ ((g.1 = g.1) /\ (((0 : Int) = (0 : Int)) /\ ((g.2 = g.2) /\ ((0 = 0) /\ ((List.length g.5 = List.length g.5) /\ ((bs g.4 = bs g.4) /\
  ((g.3 = g.3) /\ True)))))))))))))) := by kernel_rfl
theorem W2_round (g : PG) (i : Nat) (Inv : Nat → Prop) (m : Nat → Nat) : mev EtWd noM 60 5 (0 :: pW2) false (codeOf Tryz.prog 5 (0 :: pW2)) ⟨mkOv (slW2 g i), 84, []⟩ none ⟨mkR (rlW g), 2⟩ (roundK 1 2 84 Inv m (slW2 g) (fun _ => rlW g) (wsW2 g) i) =
  (br (decide ((↑i : Int) < Int.ofNat (List.length (Array.toList (ByteArray.data (bs (jn 32 g.6))))))) (br (decide ((0 : Int) <= (↑i : Int) /\ (↑i : Int) < (↑(List.length
  (Array.toList (ByteArray.data (bs (jn 32 g.6))))) : Int))) (br (decide (byteAt (bs (jn 32 g.6)) (Int.toNat (↑i : Int)) < (32 : Int))) False (br (decide ((0 : Int) <= (↑i :
  Int) /\ (↑i : Int) < (↑(List.length (Array.toList (ByteArray.data (bs (jn 32 g.6))))) : Int))) (br (decide (byteAt (bs (jn 32 g.6)) (Int.toNat (↑i : Int)) > (126 : Int)))
  False (∃ j : Nat, ((Inv j) /\ ((m j < m i) /\ ((0 = 0) /\ ((bs (jn 32 g.6) = bs (jn 32 g.6)) /\ (((↑j : Int) = IntKind.wrap IntKind.i64 ((↑i : Int) + (1 : Int))) /\ ((Eq
  (α := List Value) (gC enR g.5) (gC enR g.5)) /\ ((Plain (gC enR g.5)) /\ (((6 : Int) = (6 : Int)) /\ ((g.1 = g.1) /\ (((0 : Int) = (0 : Int)) /\ ((g.2 = g.2) /\ ((0 = 0)
  /\ ((List.length g.5 = List.length g.5) /\ ((bs g.4 = bs g.4) /\ ((g.3 = g.3) /\ True))))))))))))))))) False)) False) (∃ y : Unit, ((True) /\ ((0 = 0) /\ ((bs (jn 32 g.6)
  = bs (jn 32 g.6)) /\ ((Eq (α := List Value) (gC enR g.5) (gC enR g.5)) /\ ((Plain (gC enR g.5)) /\ (((6 : Int) = (6 : Int)) /\ ((g.1 = g.1) /\ (((0 : Int) = (0 : Int)) /\
  ((g.2 = g.2) /\ ((0 = 0) /\ ((List.length g.5 = List.length g.5) /\ ((bs g.4 = bs g.4) /\ ((g.3 = g.3) /\ True))))))))))))))) := by kernel_rfl
theorem Wd_vc (n k : Int) (t : ByteArray) (l : List Rw) (e : Bool) : mcall EtWd mW 100 5 [.int .i64 n, .int .i64 k, .string t, slR 0 l.length, .bool e] ⟨mkR (nums 0 [gRo enR l]), 1⟩ (retIs 1 (.bool true) [gRo enR l]) =
  ((((True /\ (True /\ (True /\ True))) /\ (True /\ (True /\ (I64 n /\ ((-1000000000000 : Int) <= (-9 : Int) /\ ((9 : Int) <= (1000000000000 : Int) /\ (-9 : Int) <= (9 :
  Int)))))))) /\ ((((True /\ (True /\ (True /\ True))) /\ (True /\ (True /\ (I64 k /\ ((-1000000000000 : Int) <= (0 : Int) /\ ((99 : Int) <= (1000000000000 : Int) /\ (0 :
  Int) <= (99 : Int)))))))) /\ (((((True /\ (True /\ (True /\ (True /\ ((0 + List.length l * 3 <= List.length (gC enR l) /\ Plain (List.take (List.length l * 3) (List.drop 0
  (gC enR l)))) /\ (True /\ (True /\ True))))))) /\ True) /\ ((True /\ True) /\ (True /\ (IsRw (Row.mk (List.take (List.length l * 3) (List.drop 0 (gC enR l))) true
  (Ob.cells true)) (List.length l) /\ List.length l <= 9223372036854775807))))) /\ (br (!stZ (Row.mk (List.take (List.length l * 3) (List.drop 0 (gC enR l))) true (Ob.cells
  true)) t) (((True /\ (True /\ (True /\ True)))) /\ ((true = true) /\ ((Eq (α := List Value) (gC enR l) (gC enR l)) /\ ((Plain (gC enR l)) /\ True)))) (br (decide
  (Int.ofNat (List.length l) > (50 : Int))) (((True /\ (True /\ (True /\ True)))) /\ ((true = true) /\ ((Eq (α := List Value) (gC enR l) (gC enR l)) /\ ((Plain (gC enR l))
  /\ True)))) (∃ g : PG, ((List.length g.5 <= 9223372036854775807) /\ ((0 = 0) /\ ((List.length g.5 = List.length l) /\ ((0 = 0) /\ (((0 : Int) = (0 : Int)) /\ ((Eq (α :=
  List Value) (gC enR g.5) (gC enR l)) /\ ((Plain (gC enR g.5)) /\ (((6 : Int) = (6 : Int)) /\ ((g.1 = inside n (-9 : Int) (9 : Int)) /\ (((0 : Int) = (0 : Int)) /\ ((g.2 =
  inside k (0 : Int) (99 : Int)) /\ ((0 = 0) /\ ((List.length g.5 = List.length l) /\ ((bs g.4 = t) /\ ((g.3 = e) /\ (∀ (side : Bool), (br (side) (∀ (y : Unit), ((∀ (r :
  Rw), r ∈ PG.l g → Rw.h r ≠ (-9223372036854775808 : Int)) → (((((True /\ (True /\ (True /\ (True /\ ((0 + List.length g.5 * 3 <= List.length (gC enR g.5) /\ Plain
  (List.take (List.length g.5 * 3) (List.drop 0 (gC enR g.5)))) /\ (True /\ (True /\ True))))))) /\ True) /\ ((True /\ True) /\ (True /\ okL6 g.1 g.2 (Row.mk (List.take
  (List.length g.5 * 3) (List.drop 0 (gC enR g.5))) true (Ob.cells true)) (List.length g.5) (bs g.4))))) /\ (∃ g2 : PG, ((okP g2 /\ List.length (jn 32 g2.6) <= 65536) /\ ((0
  = 0) /\ ((bs (jn 32 g2.6) = l6Z g.1 g.2 (Row.mk (List.take (List.length g.5 * 3) (List.drop 0 (gC enR g.5))) true (Ob.cells true)) (bs g.4) g.3) /\ (((0 : Int) = (0 :
  Int)) /\ ((Eq (α := List Value) (gC enR g2.5) (gC enR g.5)) /\ ((Plain (gC enR g2.5)) /\ (((6 : Int) = (6 : Int)) /\ ((g2.1 = g.1) /\ (((0 : Int) = (0 : Int)) /\ ((g2.2 =
  g.2) /\ ((0 = 0) /\ ((List.length g2.5 = List.length g.5) /\ ((bs g2.4 = bs g.4) /\ ((g2.3 = g.3) /\ (∀ (y2 : Unit), ((True) → ((((True /\ True) /\ (True /\ ((Plain (gC
  enR (paL (bs (jn 32 g2.6)))) /\ True) /\ IsLn (bs (jn 32 g2.6)))))) /\ (br (!strEq (bs (jn 32 g2.6)) (ByteArray.mk #[])) (br (g2.1 == paA (bs (jn 32 g2.6))) (br (g2.2 ==
  paC (bs (jn 32 g2.6))) (br (strEq (bs g2.4) (paT (bs (jn 32 g2.6)))) (br (g2.3 == paE (bs (jn 32 g2.6))) (((((0 + List.length g2.5 * 3 <= List.length (gC enR g2.5) /\
  Plain (List.take (List.length g2.5 * 3) (List.drop 0 (gC enR g2.5)))) /\ ((0 + paK (bs (jn 32 g2.6)) * 3 <= List.length (gC enR (paL (bs (jn 32 g2.6)))) /\ Plain
  (List.take (paK (bs (jn 32 g2.6)) * 3) (List.drop 0 (gC enR (paL (bs (jn 32 g2.6))))))) /\ True)) /\ ((True /\ (True /\ True)) /\ (True /\ (IsRw (Row.mk (List.take
  (List.length g2.5 * 3) (List.drop 0 (gC enR g2.5))) true (Ob.cells true)) (List.length g2.5) /\ (Row.mk (List.take (paK (bs (jn 32 g2.6)) * 3) (List.drop 0 (gC enR (paL
  (bs (jn 32 g2.6)))))) true (Ob.cells true) = Row.mk (List.take (List.length g2.5 * 3) (List.drop 0 (gC enR g2.5))) true (Ob.cells true) /\ (paK (bs (jn 32 g2.6)) =
  List.length g2.5 /\ List.length g2.5 <= 9223372036854775807))))))) /\ (((True /\ (True /\ (True /\ True)))) /\ ((true = true) /\ ((Eq (α := List Value) (gC enR l) (gC enR
  g2.5)) /\ ((Plain (gC enR l)) /\ True))))) ((true = false) /\ ((Eq (α := List Value) (gC enR l) (gC enR g2.5)) /\ ((Plain (gC enR l)) /\ True)))) ((true = false) /\ ((Eq
  (α := List Value) (gC enR l) (gC enR g2.5)) /\ ((Plain (gC enR l)) /\ True)))) ((true = false) /\ ((Eq (α := List Value) (gC enR l) (gC enR g2.5)) /\ ((Plain (gC enR l))
  /\ True)))) ((true = false) /\ ((Eq (α := List Value) (gC enR l) (gC enR g2.5)) /\ ((Plain (gC enR l)) /\ True)))) ((true = false) /\ ((Eq (α := List Value) (gC enR l) (gC
  enR g2.5)) /\ ((Plain (gC enR l)) /\ True))))))))))))))))))))))))) (∀ (y : Unit), ((True) → ((true = true) /\ ((Eq (α := List Value) (gC enR l) (gC enR g.5)) /\ ((Plain
  (gC enR l)) /\ True)))))))))))))))))))))))))))) := by kernel_rfl
theorem eWi_ok : EntOk Tryz.prog eWi := entC_ok (by
  intro a rows p v news h hp
  split at h <;> simp only [Option.some.injEq, Prod.mk.injEq, reduceCtorEq] at h
  obtain ⟨rfl, rfl, rfl⟩ := h
  exact within_con _ _ _ hp.1 hp.2.1 hp.2.2.1 hp.2.2.2)
theorem eSh_ok : EntOk Tryz.prog eSh := entC_ok (by
  intro a rows p v news h hp
  split at h <;> simp only [Option.some.injEq, Prod.mk.injEq, reduceCtorEq] at h
  obtain ⟨rfl, rfl, rfl⟩ := h
  exact Go.Proofs.YtnbfhihibgdgpaaGreatDoor.cr.shr_law)
theorem gR_inj2 : ∀ l m : List Rw, gC enR l = gC enR m → l = m
  | [], [], _ => rfl
  | [], r :: m, h => by rw [gC_cons] at h; simp [gC, enR] at h
  | r :: l, [], h => by rw [gC_cons] at h; simp [gC, enR] at h
  | r :: l, q :: m, h => by
    rw [gC_cons, gC_cons] at h
    simp only [enR, List.cons_append, List.nil_append, List.cons.injEq, Value.string.injEq, Value.int.injEq, true_and] at h
    obtain ⟨h1, h2, h3, h4⟩ := h
    rw [gR_inj2 l m h4]
    obtain ⟨n, v, x⟩ := r
    obtain ⟨n2, v2, x2⟩ := q
    simp only at h1 h2 h3
    rw [bs_inj h1, bs_inj h2, h3]
theorem l6Z_eq (a c : Int) (l : List Rw) (t : ByteArray) (e : Bool) : l6Z a c (gRo enR l) t e = bs (li6 ⟨6, a, 0, c, l, L t, e⟩) := by
  have hex : ∃ m : List Rw, (gRo enR l).cells = gC enR m := ⟨l, rfl⟩
  have hm : gC enR l = gC enR (Classical.choose hex) := Classical.choose_spec hex
  unfold l6Z; rw [sl.sealV_eq]
  refine (dif_pos hex).trans ?_
  rw [← gR_inj2 _ _ hm]
theorem eL6_ok : EntOk Tryz.prog eL6 := entC_ok (by
  intro a rows p v news h hp
  split at h <;> simp only [Option.some.injEq, Prod.mk.injEq, reduceCtorEq] at h
  obtain ⟨rfl, rfl, rfl⟩ := h
  rename_i a c n t e r0
  obtain ⟨l, rfl, rfl, ok⟩ := hp
  rw [l6Z_eq]
  have := Li6_con ⟨6, a, 0, c, l, L t, e⟩ (ok e)
  exact this)
theorem pa_eq (g : PG) (h : okP g) (hl : (jn 32 g.p).length ≤ 65536) : paA (bs (jn 32 g.p)) = g.a ∧ paC (bs (jn 32 g.p)) = g.c ∧ paK (bs (jn 32 g.p)) = g.l.length ∧ paL (bs (jn 32 g.p)) = g.l ∧ paT (bs (jn 32 g.p)) = bs g.t ∧ paE (bs (jn 32 g.p)) = g.e := by
  obtain ⟨f0, f1⟩ := spL_eq g.p (okP_sp g h hl)
  obtain ⟨e0, e1, _⟩ := pcs_cells g h false (.cells true)
  obtain ⟨e2, e3, e4, e5⟩ := pcs_cells2 g h false (.cells true)
  unfold paA paC paK paL paT paE rwS
  simp only [sl.sealV_eq, f0, e0, e1, e2, e3, e4, e5, and_self]
theorem ePa_ok : EntOk Tryz.prog ePa := entC_ok (by
  intro a rows p v news h hp
  split at h <;> simp only [Option.some.injEq, Prod.mk.injEq, reduceCtorEq] at h
  obtain ⟨rfl, rfl, rfl⟩ := h
  obtain ⟨g, hg, rfl, hl⟩ := hp
  obtain ⟨e0, e1, e2, e3, e4, e5⟩ := pa_eq g hg hl
  rw [e0, e1, e2, e3, e4, e5]
  exact Pa_con g hg hl)
theorem tWd_ok : ∀ x ∈ tWd, EntOk Tryz.prog x := all_cons eWi_ok (all_cons eStp_ok (all_cons eSh_ok (all_cons eL6_ok (all_cons ePa_ok (all_cons cy.eSm_ok (all_nil))))))
theorem W1_piece : PieceOk EtWd 1 (5, pW1, specW1) := by
  refine piece_loop mixed (calls_envT tWd_ok) (lok_envT _ _) lm_none (n := 60) (by kernel_rfl) (fun _ => (0 : Nat)) (fun g i => i ≤ g.l.length ∧ ∀ r ∈ g.l.take i, r.h ≠ -9223372036854775808) (fun g i => g.l.length - i) (sl := slW1) (rl := fun g _ => rlW g) (fun g hg => ⟨Nat.zero_le _, fun r hr => by simp at hr⟩) (fun g i hg hi => ?_)
  refine (W1_round g i _ _).mpr ?_
  have hg : g.l.length ≤ maxLen := hg
  unfold maxLen at hg
  obtain ⟨hi, hn⟩ := hi
  have pl := rPl g.l
  simp only [ofNat_eq, toNat_cast, Nat.zero_add, Nat.add_zero, Nat.mul_one, List.drop_zero, bCells_len, bCells_drop, bCells_take, bCells_app, bCells_one, bCells_plain, List.length_replicate, List.length_append, List.length_take, List.length_drop, List.take_length, and_true, true_and, and_self, decide_true, List.length_nil, List.length_cons, Nat.sub_zero, dB_mk, dB_ro, List.take_zero]
  refine br_if (fun h => br_dec (by omega) ?_) (fun h => ?_)
  · have h1 : i < g.l.length := by omega
    obtain ⟨_, _, c2, _, _, d2⟩ := rGet g.l i h1
    have w1 : IntKind.i64.wrap ((i : Int) + 1) = ((i + 1 : Nat) : Int) := by rw [wr64_id (by unfold I64; omega)]; omega
    rw [d2]
    refine ⟨c2, br_intro (fun _ => ⟨(), pl⟩) (fun he => ⟨i + 1, ⟨by omega, fun r hr => ?_⟩, by omega, w1.symm, pl⟩)⟩
    rw [List.take_succ_eq_append_getElem h1] at hr
    rcases List.mem_append.1 hr with hr | hr
    · exact hn r hr
    · rw [List.mem_singleton] at hr
      rw [hr]; simpa using he
  · have : i = g.l.length := by omega
    subst this
    rw [List.take_length] at hn
    exact ⟨(), hn, pl⟩
theorem byte_wB : ∀ x b : UInt8, b ∈ wB x → 32 ≤ b.toNat ∧ b.toNat ≤ 126 := by
  have h : ∀ n : Fin 256, ∀ b ∈ wB (UInt8.ofNat n), 32 ≤ b.toNat ∧ b.toNat ≤ 126 := by decide +kernel
  intro x b hb
  have e : UInt8.ofNat (⟨x.toNat, x.toNat_lt⟩ : Fin 256) = x := UInt8.ofNat_toNat
  have := h ⟨x.toNat, x.toNat_lt⟩
  rw [e] at this
  exact this b hb
theorem byte_word (t : List UInt8) (b : UInt8) (h : b ∈ wordL t) : 32 ≤ b.toNat ∧ b.toNat ≤ 126 := by
  unfold wordL at h
  obtain ⟨x, _, hx⟩ := List.mem_flatMap.1 h
  exact byte_wB x b hx
theorem byte_itoa (n : Int) (b : UInt8) (h : b ∈ Lib.itoa n) : 32 ≤ b.toNat ∧ b.toNat ≤ 126 := by
  have hd : ∀ u : Nat, b ∈ Lib.decDigits u → 32 ≤ b.toNat ∧ b.toNat ≤ 126 := fun u hu => by
    have := (val_dec u u (Nat.le_refl _)).2 b hu
    omega
  unfold Lib.itoa at h
  split at h
  · rcases List.mem_cons.1 h with h | h
    · rw [h]; decide
    · exact hd _ h
  · exact hd _ h
theorem byte_jn (c : UInt8) (hc : 32 ≤ c.toNat ∧ c.toNat ≤ 126) : ∀ l : List (List UInt8), (∀ x ∈ l, ∀ b ∈ x, 32 ≤ b.toNat ∧ b.toNat ≤ 126) → ∀ b ∈ jn c l, 32 ≤ b.toNat ∧ b.toNat ≤ 126
  | [], _ => fun b h => by simp [jn] at h
  | [x], h => h x (List.mem_cons_self ..)
  | x :: y :: r, h => fun b hm => by
    rw [jn_cons c x (y :: r) (List.cons_ne_nil _ _)] at hm
    rcases List.mem_append.1 hm with hm | hm
    · exact h x (List.mem_cons_self ..) b hm
    · rcases List.mem_cons.1 hm with hm | hm
      · rw [hm]; exact hc
      · exact byte_jn c hc (y :: r) (fun z hz => h z (List.mem_cons_of_mem _ hz)) b hm
theorem byte_pcs (g : PG) : ∀ x ∈ pcs g, ∀ b ∈ x, 32 ≤ b.toNat ∧ b.toNat ≤ 126 := by
  intro x hx
  unfold pcs at hx
  rcases List.mem_cons.1 hx with rfl | hx
  · decide
  rcases List.mem_cons.1 hx with rfl | hx
  · exact byte_itoa _
  rcases List.mem_cons.1 hx with rfl | hx
  · exact byte_itoa _
  rcases List.mem_cons.1 hx with rfl | hx
  · unfold endP; split <;> decide
  rcases List.mem_cons.1 hx with rfl | hx
  · intro b h
    rcases List.mem_cons.1 h with h | h
    · rw [h]; decide
    · exact byte_word _ _ h
  · obtain ⟨r, _, rfl⟩ := List.mem_map.1 hx
    unfold rwP
    refine byte_jn 61 (by decide) _ fun x hx => ?_
    simp only [List.mem_cons, List.not_mem_nil, or_false] at hx
    rcases hx with rfl | rfl | rfl
    · exact byte_itoa _
    · exact byte_word _
    · exact byte_word _
theorem W2_piece : PieceOk EtWd 1 (5, pW2, specW2) := by
  refine piece_loop mixed (calls_envT tWd_ok) (lok_envT _ _) lm_none (n := 60) (by kernel_rfl) (fun _ => (0 : Nat)) (fun g i => i ≤ (jn 32 g.p).length) (fun g i => (jn 32 g.p).length - i) (sl := slW2) (rl := fun g _ => rlW g) (fun g hg => Nat.zero_le _) (fun g i hg hi => ?_)
  refine (W2_round g i _ _).mpr ?_
  obtain ⟨hg, hl⟩ : okP g ∧ (jn 32 g.p).length ≤ 65536 := hg
  have pl := rPl g.l
  have hL : ∀ l : List UInt8, (bs l).data.toList.length = l.length := fun _ => rfl
  simp only [ofNat_eq, toNat_cast, Nat.zero_add, Nat.add_zero, Nat.mul_one, List.drop_zero, bCells_len, bCells_drop, bCells_take, bCells_app, bCells_one, bCells_plain, List.length_replicate, List.length_append, List.length_take, List.length_drop, List.take_length, and_true, true_and, and_self, decide_true, List.length_nil, List.length_cons, Nat.sub_zero, dB_mk, dB_ro, List.take_zero, hL]
  refine br_if (fun h => br_dec (by omega) ?_) (fun h => ⟨(), pl⟩)
  have h1 : i < (jn 32 g.p).length := by omega
  have hb : byteAt (bs (jn 32 g.p)) i = ((jn 32 g.p)[i].toNat : Int) := byteAt_bs h1
  have hx := byte_jn 32 (by decide) g.p (by rw [hg.1]; exact byte_pcs g) _ (List.getElem_mem h1)
  have w1 : IntKind.i64.wrap ((i : Int) + 1) = ((i + 1 : Nat) : Int) := by rw [wr64_id (by unfold I64; omega)]; omega
  rw [hb]
  exact br_nd (by omega) (br_dec (by omega) (br_nd (by omega) ⟨i + 1, by omega, by omega, w1.symm, pl⟩))
theorem jn_flat (c : UInt8) : ∀ (l : List (List UInt8)) (x : List UInt8), jn c (x :: l) = x ++ l.flatMap fun y => c :: y
  | [], x => by show x = x ++ []; rw [List.append_nil]
  | y :: l, x => by
    rw [jn_cons c x (y :: l) (List.cons_ne_nil _ _), jn_flat c l y]; rfl
theorem rwL_eq (r : Rw) : rwL r = 32 :: rwP r.h r.n r.v := by
  unfold rwL rwP; simp [jn]
theorem li6_jn (a c : Int) (e : Bool) (t : List UInt8) (l : List Rw) (p : List (List UInt8)) : li6 ⟨6, a, 0, c, l, t, e⟩ = jn 32 (pcs ⟨a, c, e, t, l, p⟩) := by
  have h : rwsL l = (l.map fun r => rwP r.h r.n r.v).flatMap fun y => (32 : UInt8) :: y := by
    unfold rwsL
    rw [List.flatMap_map]
    exact congrArg (fun f => List.flatMap f l) (funext fun r => rwL_eq r)
  unfold pcs
  rw [jn_flat]
  simp only [List.flatMap_cons, ← h]
  unfold li6 lh6 nW tW eW endP
  cases e <;> simp
theorem st_len : ∀ (l : List Rw) (n : Int), 0 ≤ n → n ≤ 2000000 → (∀ r ∈ l, I64 r.h ∧ r.n.length ≤ 1048576 ∧ r.v.length ≤ 1048576) → stS l n = true →
    n ≤ 4000 ∧ (∀ r ∈ l, okRw r) ∧ ((rwsL l).length : Int) ≤ 3 * (4000 - n) + 24 * (l.length : Nat)
  | [], n, _, _, _, h => by
    have : n ≤ 4000 := of_decide_eq_true h
    refine ⟨this, fun r hr => by simp at hr, ?_⟩
    simp only [rwsL, List.flatMap_nil, List.length_nil]; omega
  | w :: l, n, h0, h1, hb, h => by
    obtain ⟨b0, b1, b2⟩ := hb w (List.mem_cons_self ..)
    have ea : add3 w n = n + (w.n.length : Nat) + (w.v.length : Nat) + 1 := by
      unfold add3
      rw [wr64_id (n := n + (w.n.length : Nat)) (by unfold I64; omega), wr64_id (n := n + (w.n.length : Nat) + (w.v.length : Nat)) (by unfold I64; omega), wr64_id (by unfold I64; omega)]
    simp only [stS] at h
    by_cases hc : 4000 < add3 w n
    · rw [decide_eq_true hc] at h; simp at h
    · rw [decide_eq_false hc] at h
      simp only [cond_false] at h
      rw [ea] at hc h
      obtain ⟨c1, c2, c3⟩ := st_len l _ (by omega) (by omega) (fun r hr => hb r (List.mem_cons_of_mem _ hr)) h
      have i1 := itoa_le _ b0
      have i2 := word_le w.n
      have i3 := word_le w.v
      have el : (rwsL (w :: l)).length = (rwL w).length + (rwsL l).length := by
        unfold rwsL; rw [List.flatMap_cons, List.length_append]
      have ew : (rwL w).length = 1 + (Lib.itoa w.h).length + 1 + (wordL w.n).length + 1 + (wordL w.v).length := by
        unfold rwL; simp only [List.length_append, List.length_cons, List.length_nil]
      refine ⟨by omega, fun r hr => ?_, by rw [el, ew, List.length_cons]; omega⟩
      rcases List.mem_cons.1 hr with rfl | hr
      · exact ⟨b0, by omega, by omega⟩
      · exact c2 r hr
theorem stZ_eq2 (l : List Rw) (t : ByteArray) : stZ (gRo enR l) t = stS l ((L t).length : Nat) := by
  have hex : ∃ m : List Rw, (gRo enR l).cells = gC enR m := ⟨l, rfl⟩
  have hm : gC enR l = gC enR (Classical.choose hex) := Classical.choose_spec hex
  unfold stZ; rw [Go.Proofs.YtnbfhihibgdgpaaGreatDoor.sn.sealV_eq]
  refine (dif_pos hex).trans ?_
  rw [← gR_inj2 _ _ hm]
theorem Wd_law (n k : Int) (t : ByteArray) (l : List Rw) (e : Bool) (hn : I64 n) (hk : I64 k) (ht : t.size ≤ 1048576) (hl : l.length ≤ 1048576) (wl : ∀ r ∈ l, I64 r.h ∧ r.n.length ≤ 1048576 ∧ r.v.length ≤ 1048576) :
    Con Tryz.prog 5 [.int .i64 n, .int .i64 k, .string t, .slice (some ⟨0, 0, none⟩) l.length 3, .bool e] [gRo enR l] (.bool true) [gRo enR l] := by
  refine con_vc (E := EtWd) mixed (calls_envT tWd_ok) (lok_envT _ _) (M := mW) (lm_two W1_piece W2_piece) (Wd_vc n k t l e) ?_
  have pl := rPl
  simp only [ofNat_eq, toNat_cast, Nat.zero_add, Nat.add_zero, Nat.mul_one, List.drop_zero, bCells_len, bCells_drop, bCells_take, bCells_app, bCells_one, bCells_plain, List.length_replicate, List.length_append, List.length_take, List.length_drop, List.take_length, and_true, true_and, and_self, decide_true, List.length_nil, List.length_cons, Nat.sub_zero, dB_mk, dB_ro, List.take_zero]
  have tk3 : ∀ l : List Rw, List.take (l.length * 3) (gC enR l) = gC enR l := fun l => by rw [← gC_len enR_k l, List.take_length]
  have tl3 : ∀ l : List Rw, (gC enR l).length = l.length * 3 := fun l => gC_len enR_k l
  have eR : ∀ l : List Rw, Row.mk (gC enR l) true (.cells true) = gRo enR l := fun _ => rfl
  have qt : (L t).length = t.size := rfl
  have eqb : ∀ x : ByteArray, strEq x x = true := fun x => by unfold strEq; simp
  obtain ⟨n1, n2⟩ := inside_in n (-9) 9 (by decide)
  obtain ⟨k1, k2⟩ := inside_in k 0 99 (by decide)
  simp only [tk3, eR, stZ_eq2]
  refine ⟨⟨hn, by decide, by decide, by decide⟩, ⟨hk, by decide, by decide, by decide⟩, ⟨⟨by rw [tl3]; exact Nat.le_refl _, pl l⟩, ⟨l, rfl, rfl⟩, by omega⟩, ?_⟩
  refine br_intro (fun _ => pl l) (fun hs => ?_)
  have hs : stS l ((L t).length : Nat) = true := by simpa using hs
  refine br_if (fun _ => pl l) (fun h50 => ?_)
  obtain ⟨s1, s2, s3⟩ := st_len l _ (by omega) (by omega) wl hs
  generalize inside n (-9) 9 = a at *
  generalize inside k 0 99 = c at *
  have ga : I64 a ∧ a ≠ -9223372036854775808 := ⟨by unfold I64; omega, by omega⟩
  have gc : I64 c ∧ c ≠ -9223372036854775808 := ⟨by unfold I64; omega, by omega⟩
  have qb : bs (L t) = t := rfl
  refine ⟨⟨a, c, e, L t, l, []⟩, by simp only; omega, rfl, rfl, pl l, rfl, rfl, rfl, rfl, rfl, fun side => ?_⟩
  cases side with
  | false => exact fun _ _ => ⟨rfl, pl l⟩
  | true =>
    intro _ hm
    simp only at hm
    have hli := li6_jn a c e (L t) l []
    obtain ⟨P, hP⟩ : ∃ P, P = pcs ⟨a, c, e, L t, l, []⟩ := ⟨_, rfl⟩
    have okp : okP ⟨a, c, e, L t, l, P⟩ := ⟨hP, ga, gc, by simp only; omega, by simp only; omega, fun r hr => ⟨⟨(s2 r hr).1, hm r hr⟩, (s2 r hr).2⟩⟩
    rw [← hP] at hli
    have hw := word_le (L t)
    have i1 := itoa_le a ga.1
    have i2 := itoa_le c gc.1
    have hlen : (jn 32 P).length ≤ 65536 := by
      rw [← hli]
      unfold li6 lh6 nW tW eW
      simp only [List.length_append, List.length_cons, List.length_nil]
      split <;> simp only [List.length_append, List.length_cons, List.length_nil] <;> omega
    obtain ⟨f0, f1, f2, f3, f4, f5⟩ := pa_eq ⟨a, c, e, L t, l, P⟩ okp hlen
    simp only at f0 f1 f2 f3 f4 f5
    have okg : okL6 a c (gRo enR l) l.length (bs (L t)) := ⟨l, rfl, rfl, fun e => ⟨ga.1, by unfold I64; simp only; omega, gc.1, by simp only [qb]; omega, by unfold maxLen; simp only; omega, s2, by simp only; omega⟩⟩
    refine ⟨⟨⟨by rw [tl3]; exact Nat.le_refl _, pl l⟩, okg⟩, ⟨a, c, e, L t, l, P⟩, ⟨okp, hlen⟩, by rw [l6Z_eq, ← hli, qb], rfl, pl l, rfl, rfl, rfl, rfl, rfl, fun _ _ => ?_⟩
    have ne : strEq (bs (jn 32 P)) ⟨#[]⟩ = false := by
      show strEq (bs (jn 32 P)) (bs []) = false
      rw [strEq_bs, hP]
      exact decide_eq_false (by unfold pcs; rw [jn_flat]; simp)
    simp only [f0, f1, f2, f3, f4, f5, ne, eqb, beq_self_eq_true, tk3, eR, tl3, Bool.not_false]
    exact ⟨⟨pl l, ⟨_, okp, rfl, hlen⟩⟩, br_b rfl (br_b rfl (br_b rfl (br_b rfl (br_b rfl ⟨⟨⟨⟨Nat.le_refl _, pl l⟩, Nat.le_refl _, pl l⟩, ⟨l, rfl, rfl⟩, trivial, trivial, by omega⟩, trivial, pl l⟩))))⟩
theorem q_rws {n : Nat} {cells : List Value} {Q : Nat → Prop} (hQ : ∀ m, Q m → m ≤ 1048576) (h : ElemsQ Q [.s, .s, .i .i64] n cells) : ∃ l : List Rw, l.length = n ∧ cells = gC enR l ∧ ∀ r ∈ l, I64 r.h ∧ r.n.length ≤ 1048576 ∧ r.v.length ≤ 1048576 := by
  obtain ⟨l, h1, h2, h3⟩ := h.data (α := Rw) enR (fun r => I64 r.h ∧ r.n.length ≤ 1048576 ∧ r.v.length ≤ 1048576) (fun c hc => by
    match c, hc with
    | [x, y, z], hc =>
      obtain ⟨c1, c2, c3, _⟩ := hc
      obtain ⟨s, rfl, w1, b1⟩ := cq_s c1
      obtain ⟨t, rfl, w2, b2⟩ := cq_s c2
      obtain ⟨u, rfl, w3⟩ := cq_i c3
      exact ⟨⟨L s, L t, u⟩, rfl, Sy.wf64 w3, hQ _ b1, hQ _ b2⟩)
  exact ⟨l, h1, h2, h3⟩
end Go.Proofs.YtnbfhihibgdgpaaGreatDoor.sw
