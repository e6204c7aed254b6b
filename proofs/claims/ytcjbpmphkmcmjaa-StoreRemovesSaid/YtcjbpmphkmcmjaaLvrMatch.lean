/- Does an entry match a request? -/
import Derived.Test.YtcjbpmphkmcmjaaSz9
import Derived.Test.YtcjbpmphkmcmjaaRows
import Derived.Test.YtcjbpmphkmcmjaaLkpStar
import Derived.Test.YtcjbpmphkmcmjaaLtkTrim
import Derived.Test.YtcjbpmphkmcmjaaLlgt
import Derived.Test.YtcjbpmphkmcmjaaLbrt
set_option maxRecDepth 20000
set_option linter.unusedSimpArgs false
set_option linter.unusedVariables false
namespace Go.Proofs.Ytcjbpmphkmcmjaa.tk
open Go Go.Ev Go.Sy Go.RowKit Go.Proofs.Ytcjbpmphkmcmjaa.gl
def BigV (l : List Fl) : Prop := ∀ x, (allL l x).length ≤ 16777000
def mOne (e q : List Fl) (nm : List UInt8) : Bool := (decide (0 < allN nm e) == decide (0 < allN nm q)) && decide (trimL (allL e nm) = trimL (allL q nm))
def matL (e r q : List Fl) : Bool := match starL r with
  | none => false
  | some names => names.all (mOne e q)
def matR (r0 r1 r2 : Row) : Bool := matL (decF r0.cells) (decF r1.cells) (decF r2.cells)
def cMt : FuncId → List Value → List Row → Option (Prop × Value × List Row)
  | 53, [.slice (some ⟨0, 0, none⟩) n 2], [r0] => some (IsF r0 n ∧ n ≤ maxLen ∧ vaB r0 ≤ 16777000, .tuple #[.slice (some ⟨1, 0, none⟩) (stN r0) 1, .bool (stB r0)], [⟨stC r0, false, .cells true⟩])
  | 54, [.slice (some ⟨0, 0, none⟩) n 2, .string s], [r0] => some (IsF r0 n ∧ n ≤ maxLen ∧ alB r0 s ≤ 16777216, .tuple #[.string (alV r0 s), .int .i64 (alN r0 s)], [])
  | 55, [.string s], [] => some ((L s).length ≤ maxLen, .string (trimS s), [])
  | _, _, _ => none
noncomputable abbrev EMt : Env := envC Try.prog cMt (fun f => Nat.beq f 53 || Nat.beq f 54 || Nat.beq f 55)
structure EnX where
  m : ByteArray
  s : ByteArray
  a : ByteArray
  p : ByteArray
  k : Int
  st : Int
  k2 : Int
  body : ByteArray
  asked : Int
  came : Int
structure RqX where
  m : ByteArray
  s : ByteArray
  a : ByteArray
  p : ByteArray
  k : Int
def enCells (x : EnX) (r0 n0 r1 n1 : Nat) : List Value := [.string x.m, .string x.s, .string x.a, .string x.p, .slice (some ⟨r0, 0, none⟩) n0 2, .int .i64 x.k, .int .i64 x.st, .slice (some ⟨r1, 0, none⟩) n1 2, .int .i64 x.k2, .string x.body, .int .i64 x.asked, .int .i64 x.came]
def rqCells (x : RqX) (r n : Nat) : List Value := [.string x.m, .string x.s, .string x.a, .string x.p, .slice (some ⟨r, 0, none⟩) n 2, .int .i64 x.k]
structure GMt where
  x : EnX
  y : RqX
  e : List Fl
  r : List Fl
  q : List Fl
  ns : List (List UInt8)
def pMt : List Nat := [0, 1, 0, 1, 1, 1]
def slMt (g : GMt) (i : Nat) : List (Nat × Value) := [(2, .pointer (some ⟨3, 0, none⟩)), (3, .pointer (some ⟨4, 0, none⟩)), (21, .slice (some ⟨5, 0, none⟩) g.ns.length 1), (22, .int .i64 (g.ns.length : Nat)), (23, .int .i64 (i : Nat))]
def rlMt (g : GMt) : List (Nat × Row) := [(0, gRo enF g.e), (1, gRo enF g.r), (2, gRo enF g.q), (3, ⟨enCells g.x 0 g.e.length 1 g.r.length, false, .cells false⟩), (4, ⟨rqCells g.y 2 g.q.length, false, .cells false⟩), (5, gOwn enS g.ns)]
def rlMt0 (g : GMt) : List (Nat × Row) := [(0, gRo enF g.e), (1, gRo enF g.r), (2, gRo enF g.q)]
def wsMt (g : GMt) : List (Gate Unit) := [⟨.exit 0, fun _ => g.ns.all (mOne g.e g.q) = true, fun _ => [], fun _ => rlMt0 g, 3⟩, ⟨.ret, fun _ => g.ns.all (mOne g.e g.q) = false, fun _ => [(4, .bool false)], fun _ => rlMt0 g, 3⟩]
def specMt : Sy.Spec := specOf 3 6 55 (fun g : GMt => g.ns.length ≤ 16777216 ∧ g.e.length ≤ maxLen ∧ g.q.length ≤ maxLen ∧ BigV g.e ∧ BigV g.q) (fun g => slMt g 0) rlMt wsMt
def mMt := mOf [(34, pMt, specMt)]
theorem Mt_round (g : GMt) (i : Nat) (Inv : Nat → Prop) (m : Nat → Nat) : mev EMt noM 60 34 (0 :: pMt) false (codeOf Try.prog 34 (0 :: pMt)) ⟨mkOv (slMt g i), 55, []⟩ none ⟨mkR (rlMt g), 6⟩ (roundK 3 6 55 Inv m (slMt g) (fun _ => rlMt g) (wsMt g) i) =
  let z1 := ((Eq (α := List Value) (gC enF g.3) (gC enF g.3)) /\ ((Plain (gC enF g.3)) /\ ((Eq (α := List Value) (gC enF g.4) (gC enF g.4)) /\ ((Plain (gC enF g.4)) /\ ((Eq
  (α := List Value) (gC enF g.5) (gC enF g.5)) /\ ((Plain (gC enF g.5)) /\ True)))))); let z2 := (cellS (gC enS g.6) (0 + Int.toNat (↑i : Int) * 1)); let z3 := (Row.mk
  (List.take (List.length g.3 * 2) (List.drop 0 (gC enF g.3))) true (Ob.cells true)); let z4 := (Row.mk (List.take (List.length g.5 * 2) (List.drop 0 (gC enF g.5))) true
  (Ob.cells true)); let z5 := ((List.all g.6 (mOne (GMt.e g) (GMt.q g)) = false) /\ ((false = false) /\ z1)); (br (decide ((↑i : Int) < (↑(List.length g.6) : Int))) (br
  (decide ((0 : Int) <= (↑i : Int) /\ (↑i : Int) < (↑(List.length g.6) : Int))) ((Eq (α := Option Value) ((gC enS g.6)[0 + Int.toNat (↑i : Int) * 1]?) (some (Value.string
  z2))) /\ (((((0 + List.length g.3 * 2 <= List.length (gC enF g.3) /\ Plain (List.take (List.length g.3 * 2) (List.drop 0 (gC enF g.3)))) /\ (True /\ True)) /\ (True /\
  (IsF z3 (List.length g.3) /\ (List.length g.3 <= 9223372036854775807 /\ alB z3 z2 <= 16777216))))) /\ (((((0 + List.length g.5 * 2 <= List.length (gC enF g.5) /\ Plain
  (List.take (List.length g.5 * 2) (List.drop 0 (gC enF g.5)))) /\ (True /\ True)) /\ (True /\ (IsF z4 (List.length g.5) /\ (List.length g.5 <= 9223372036854775807 /\ alB z4
  z2 <= 16777216))))) /\ (br (!decide (alN z3 z2 > (0 : Int)) == decide (alN z4 z2 > (0 : Int))) (∃ y : Unit, z5) ((((True /\ True) /\ (True /\ List.length (L (alV z3 z2))
  <= 9223372036854775807))) /\ ((((True /\ True) /\ (True /\ List.length (L (alV z4 z2)) <= 9223372036854775807))) /\ (br (!strEq (trimS (alV z3 z2)) (trimS (alV z4 z2))) (∃
  y : Unit, z5) (∃ j : Nat, ((Inv j) /\ ((m j < m i) /\ ((0 = 0) /\ ((0 = 0) /\ ((0 = 0) /\ ((List.length g.6 = List.length g.6) /\ (((↑(List.length g.6) : Int) =
  (↑(List.length g.6) : Int)) /\ (((↑j : Int) = IntKind.wrap IntKind.i64 ((↑i : Int) + (1 : Int))) /\ ((Eq (α := List Value) (gC enF g.3) (gC enF g.3)) /\ ((Plain (gC enF
  g.3)) /\ ((Eq (α := List Value) (gC enF g.4) (gC enF g.4)) /\ ((Plain (gC enF g.4)) /\ ((Eq (α := List Value) (gC enF g.5) (gC enF g.5)) /\ ((Plain (gC enF g.5)) /\
  ((g.1.1 = g.1.1) /\ ((g.1.2 = g.1.2) /\ ((g.1.3 = g.1.3) /\ ((g.1.4 = g.1.4) /\ ((0 = 0) /\ ((List.length g.3 = List.length g.3) /\ ((g.1.5 = g.1.5) /\ ((g.1.6 = g.1.6) /\
  ((0 = 0) /\ ((List.length g.4 = List.length g.4) /\ ((g.1.7 = g.1.7) /\ ((g.1.8 = g.1.8) /\ ((g.1.9 = g.1.9) /\ ((g.1.10 = g.1.10) /\ ((g.2.1 = g.2.1) /\ ((g.2.2 = g.2.2)
  /\ ((g.2.3 = g.2.3) /\ ((g.2.4 = g.2.4) /\ ((0 = 0) /\ ((List.length g.5 = List.length g.5) /\ ((g.2.5 = g.2.5) /\ ((Eq (α := List Value) (gC enS g.6) (gC enS g.6)) /\
  ((Plain (gC enS g.6)) /\ True))))))))))))))))))))))))))))))))))))))))))))) False) (∃ y : Unit, ((List.all g.6 (mOne (GMt.e g) (GMt.q g)) = true) /\ z1))) := by kernel_rfl
theorem Mt_vc (x : EnX) (y : RqX) (e r q : List Fl) (b : Bool) : mcall EMt mMt 60 34 [.agg ⟨enCells x 0 e.length 1 r.length⟩, .agg ⟨rqCells y 2 q.length⟩] ⟨mkR (nums 0 [gRo enF e, gRo enF r, gRo enF q]), 3⟩ (retIs 3 (.bool b) [gRo enF e, gRo enF r, gRo enF q]) =
  let z1 := (Row.mk (List.take (List.length r * 2) (List.drop 0 (gC enF r))) true (Ob.cells true)); (((((0 + List.length r * 2 <= List.length (gC enF r) /\ Plain (List.take
  (List.length r * 2) (List.drop 0 (gC enF r)))) /\ True) /\ ((Plain (stC z1) /\ True) /\ (IsF z1 (List.length r) /\ (List.length r <= 9223372036854775807 /\ vaB z1 <=
  16777000))))) /\ (br (stB z1) ((b = false) /\ ((Eq (α := List Value) (gC enF e) (gC enF e)) /\ ((Plain (gC enF e)) /\ ((Eq (α := List Value) (gC enF r) (gC enF r)) /\
  ((Plain (gC enF r)) /\ ((Eq (α := List Value) (gC enF q) (gC enF q)) /\ ((Plain (gC enF q)) /\ True))))))) (∃ g : GMt, let w1 := ((Eq (α := List Value) (gC enF e) (gC enF
  g.3)) /\ ((Plain (gC enF e)) /\ ((Eq (α := List Value) (gC enF r) (gC enF g.4)) /\ ((Plain (gC enF r)) /\ ((Eq (α := List Value) (gC enF q) (gC enF g.5)) /\ ((Plain (gC
  enF q)) /\ True)))))); ((List.length g.6 <= 16777216 /\ List.length g.3 <= 9223372036854775807 /\ List.length g.5 <= 9223372036854775807 /\ BigV g.3 /\ BigV g.5) /\ ((0 =
  0) /\ ((0 = 0) /\ ((0 = 0) /\ ((List.length g.6 = stN z1) /\ (((↑(List.length g.6) : Int) = Int.ofNat (stN z1)) /\ (((0 : Int) = (0 : Int)) /\ ((Eq (α := List Value) (gC
  enF g.3) (gC enF e)) /\ ((Plain (gC enF g.3)) /\ ((Eq (α := List Value) (gC enF g.4) (gC enF r)) /\ ((Plain (gC enF g.4)) /\ ((Eq (α := List Value) (gC enF g.5) (gC enF
  q)) /\ ((Plain (gC enF g.5)) /\ ((g.1.1 = x.1) /\ ((g.1.2 = x.2) /\ ((g.1.3 = x.3) /\ ((g.1.4 = x.4) /\ ((0 = 0) /\ ((List.length g.3 = List.length e) /\ ((g.1.5 = x.5) /\
  ((g.1.6 = x.6) /\ ((0 = 0) /\ ((List.length g.4 = List.length r) /\ ((g.1.7 = x.7) /\ ((g.1.8 = x.8) /\ ((g.1.9 = x.9) /\ ((g.1.10 = x.10) /\ ((g.2.1 = y.1) /\ ((g.2.2 =
  y.2) /\ ((g.2.3 = y.3) /\ ((g.2.4 = y.4) /\ ((0 = 0) /\ ((List.length g.5 = List.length q) /\ ((g.2.5 = y.5) /\ ((Eq (α := List Value) (gC enS g.6) (stC z1)) /\ ((Plain
  (gC enS g.6)) /\ (∀ (side : Bool), (br (side) (∀ (y2 : Unit), ((List.all g.6 (mOne (GMt.e g) (GMt.q g)) = true) → ((b = true) /\ w1))) (∀ (y2 : Unit), ((List.all g.6 (mOne
  (GMt.e g) (GMt.q g)) = false) → ((b = false) /\ w1)))))))))))))))))))))))))))))))))))))))))))) := by kernel_rfl
theorem cMt_ok : ∀ f a rows p v news, cMt f a rows = some (p, v, news) → p → Con Try.prog f a rows v (rows ++ news) := by
  intro f a rows p v news h hp
  have e : ∀ l, decF (gRo enF l).cells = l := fun l => decF_gC l
  unfold cMt at h
  split at h <;> simp only [Option.some.injEq, Prod.mk.injEq, reduceCtorEq] at h <;> obtain ⟨rfl, rfl, rfl⟩ := h
  · obtain ⟨⟨l, rfl, rfl⟩, h1, h2⟩ := hp
    simp only [vaB, stN, stC, stB, e] at h2 ⊢
    exact Ks_con l h1 h2
  · obtain ⟨⟨l, rfl, rfl⟩, h1, h2⟩ := hp
    simp only [alV, alN, alB, e, List.append_nil] at h2 ⊢
    exact Al_con l (L _) h1 h2
  · exact Trm_con (L _) hp
theorem Mt_piece : PieceOk EMt 3 (34, pMt, specMt) := by
  refine piece_loop mixed (calls_envC cMt_ok) (lok_envC _ _ _) lm_none (n := 60) (by kernel_rfl) (fun _ : GMt => (0 : Nat)) (fun g i => i ≤ g.ns.length ∧ (g.ns.take i).all (mOne g.e g.q) = true) (fun g i => g.ns.length - i) (sl := slMt) (rl := fun g _ => rlMt g) (fun g hg => ⟨Nat.zero_le _, rfl⟩) (fun g i hg hi => ?_)
  refine (Mt_round g i _ _).mpr ?_
  obtain ⟨x, y, e, r, q, ns⟩ := g
  obtain ⟨g1, g2, g3, g4, g5⟩ := hg
  obtain ⟨h1, h2⟩ := hi
  have hm : maxLen = 9223372036854775807 := by unfold maxLen; rfl
  simp only at h1 h2 g1 g2 g3 g4 g5
  simp only [ofNat_eq, toNat_cast, Nat.zero_add, Nat.add_zero, Nat.mul_one, List.drop_zero, bCells_len, bCells_drop, bCells_take, bCells_app, bCells_one, bCells_plain, List.length_replicate, List.length_append, List.length_take, List.length_drop, List.take_length, and_true, true_and, and_self, decide_true, List.length_nil, List.length_cons, Nat.sub_zero, dB_mk, dB_ro, List.take_zero, fPl, sPl, sLen, fLen]
  refine br_if (fun h => br_dec (by omega) ?_) (fun h => ⟨(), by rw [List.take_of_length_le (by omega)] at h2; exact h2⟩)
  have hi : i < ns.length := by omega
  obtain ⟨c1, c2⟩ := sGet ns i hi
  have w := i64_succ (show i < 9223372036854775807 by omega)
  have ht : ns.take (i + 1) = ns.take i ++ [ns[i]] := List.take_succ_eq_append_getElem hi
  have hin := List.getElem_mem hi
  generalize ns[i] = nm at *
  have a1 : ∀ (l : List Fl) b o, alB ⟨gC enF l, b, o⟩ (bs nm) = (allL l nm).length := fun l b o => by unfold alB; simp only; rw [decF_gC, L_bs]
  have a2 : ∀ (l : List Fl) b o, alN ⟨gC enF l, b, o⟩ (bs nm) = (allN nm l : Nat) := fun l b o => by unfold alN; simp only; rw [decF_gC, L_bs]
  have a3 : ∀ (l : List Fl) b o, alV ⟨gC enF l, b, o⟩ (bs nm) = bs (allL l nm) := fun l b o => by unfold alV; simp only; rw [decF_gC, L_bs]
  simp only [fTake, c1, c2, a1, a2, a3, w, bs_len, trimS_bs, strEq_bs]
  have b1 := g4 nm
  have b2 := g5 nm
  have hd : ∀ l : List Fl, decide ((allN nm l : Int) > 0) = decide (0 < allN nm l) := fun l => decide_eq_decide.2 (by omega)
  have hno : mOne e q nm = false → ns.all (mOne e q) = false := fun h => by rw [List.all_eq_false]; exact ⟨nm, hin, by simp [h]⟩
  simp only [hd]
  refine ⟨trivial, ⟨⟨by omega, fPl _⟩, isF_mk _ _ rfl, by omega, by omega⟩, ⟨⟨by omega, fPl _⟩, isF_mk _ _ rfl, by omega, by omega⟩, br_intro (fun k => ⟨(), hno ?_⟩) (fun k => ⟨by omega, by omega, br_intro (fun k2 => ⟨(), hno ?_⟩) (fun k2 => ⟨i + 1, ⟨by omega, ?_⟩, by omega, rfl⟩)⟩)⟩
  · have k : (decide (0 < allN nm e) == decide (0 < allN nm q)) = false := by simpa using k
    unfold mOne; rw [k]; rfl
  · have k2 : decide (trimL (allL e nm) = trimL (allL q nm)) = false := by simpa using k2
    unfold mOne; rw [k2, Bool.and_false]
  · rw [ht, List.all_append, h2, Bool.true_and, List.all_cons, List.all_nil, Bool.and_true]
    have k : (decide (0 < allN nm e) == decide (0 < allN nm q)) = true := by simpa using k
    have k2 : decide (trimL (allL e nm) = trimL (allL q nm)) = true := by simpa using k2
    unfold mOne; rw [k, k2]; rfl
theorem Mt_con (x : EnX) (y : RqX) (e r q : List Fl) (h1 : e.length ≤ maxLen) (h2 : r.length ≤ maxLen) (h3 : q.length ≤ maxLen) (b1 : BigV e) (b2 : BigV r) (b3 : BigV q) :
    Con Try.prog 34 [.agg ⟨enCells x 0 e.length 1 r.length⟩, .agg ⟨rqCells y 2 q.length⟩] [gRo enF e, gRo enF r, gRo enF q] (.bool (matL e r q)) [gRo enF e, gRo enF r, gRo enF q] := by
  refine con_vc (E := EMt) mixed (calls_envC cMt_ok) (lok_envC _ _ _) (M := mMt) (lm_one Mt_piece) (Mt_vc x y e r q _) ?_
  have hm : maxLen = 9223372036854775807 := by unfold maxLen; rfl
  simp only [ofNat_eq, toNat_cast, Nat.zero_add, Nat.add_zero, Nat.mul_one, List.drop_zero, bCells_len, bCells_drop, bCells_take, bCells_app, bCells_one, bCells_plain, List.length_replicate, List.length_append, List.length_take, List.length_drop, List.take_length, and_true, true_and, and_self, decide_true, List.length_nil, List.length_cons, Nat.sub_zero, dB_mk, dB_ro, List.take_zero, fPl, sPl, sLen, fLen, fTake]
  have r1 : ∀ b o, stN ⟨gC enF r, b, o⟩ = (stL r).length := fun b o => by unfold stN; simp only; rw [decF_gC]
  have r2 : ∀ b o, stC ⟨gC enF r, b, o⟩ = gC enS (stL r) := fun b o => by unfold stC; simp only; rw [decF_gC]
  have r3 : ∀ b o, stB ⟨gC enF r, b, o⟩ = (starL r).isNone := fun b o => by unfold stB; simp only; rw [decF_gC]
  have r4 : ∀ b o, vaB ⟨gC enF r, b, o⟩ = (allL r sVary).length := fun b o => by unfold vaB; simp only; rw [decF_gC]
  simp only [r1, r2, r3, r4]
  have hv := b2 sVary
  have hsl := (split_len (allL r sVary)).2
  have hst : (stL r).length ≤ 16777216 := by
    unfold stL; rw [star_el]
    split
    · unfold starE; split
      · simp only [Option.getD_some, List.length_map]; unfold elSp; omega
      · simp
    · simp
  refine ⟨⟨by omega, sPl _, isF_mk _ _ rfl, by omega, by omega⟩, br_intro (fun k => ?_) (fun k => ?_)⟩
  · have k : starL r = none := by simpa using k
    unfold matL; rw [k]
  · obtain ⟨ns, hns⟩ : ∃ ns, starL r = some ns := by
      cases h : starL r with
      | none => rw [h] at k; simp at k
      | some ns => exact ⟨ns, rfl⟩
    have hs2 : stL r = ns := by unfold stL; rw [hns]; rfl
    have hm2 : matL e r q = ns.all (mOne e q) := by unfold matL; rw [hns]
    rw [hs2] at hst ⊢
    rw [hm2]
    exact ⟨⟨x, y, e, r, q, ns⟩, ⟨hst, by simp only; omega, by simp only; omega, b1, b3⟩, rfl, rfl, rfl, rfl, rfl, rfl, rfl, rfl, rfl, rfl, rfl, rfl, rfl, rfl, rfl, rfl, rfl, rfl, rfl, rfl, rfl, rfl, rfl, rfl, br_side (fun _ h => ⟨h, rfl, rfl, rfl⟩) (fun _ h => ⟨h, rfl, rfl, rfl⟩)⟩
end Go.Proofs.Ytcjbpmphkmcmjaa.tk
