/- A block, read. -/
import Derived.Test.YtellbmbklfbbfaaSz9
import Derived.Test.YtellbmbklfbbfaaRows
import Derived.Test.YtellbmbklfbbfaaLupE
set_option maxRecDepth 20000
set_option linter.unusedSimpArgs false
set_option linter.unusedVariables false
namespace Go.Proofs.Ytellbmbklfbbfaa.up
open Go Go.Ev Go.Sy Go.RowKit Go.Proofs.Ytellbmbklfbbfaa.gl Go.Proofs.Ytellbmbklfbbfaa.tk Go.Proofs.Ytellbmbklfbbfaa.hf Go.Proofs.Ytellbmbklfbbfaa.s3 Go.Proofs.Ytellbmbklfbbfaa.tb
noncomputable def blO (x : Cx) (t : Tb) : Out := runO x x.b.length (st0 t)
noncomputable def blQ (r : Row) (top list : Int) (q : Row) (k : Nat) (mo : Int) : Out := blO ⟨top, list, dB r⟩ (rowT q k mo)
noncomputable def blB : Row → Int → Int → Row → Nat → Int → Bool := sealV fun r top list q k mo => isOk (blQ r top list q k mo).e
noncomputable def blE : Row → Int → Int → Row → Nat → Int → Int := sealV fun r top list q k mo => ((blQ r top list q k mo).e : Nat)
noncomputable def blA : Row → Int → Int → Row → Nat → Int → Int := sealV fun r top list q k mo => ((blQ r top list q k mo).s.i : Nat)
noncomputable def blN : Row → Int → Int → Row → Nat → Int → Nat := sealV fun r top list q k mo => (blQ r top list q k mo).s.W.length
noncomputable def blW : Row → Int → Int → Row → Nat → Int → List Value := sealV fun r top list q k mo => gC enW (blQ r top list q k mo).s.W
noncomputable def blU : Row → Int → Int → Row → Nat → Int → Int := sealV fun r top list q k mo => (blQ r top list q k mo).s.sum
noncomputable def blZ : Row → Int → Int → Row → Nat → Int → Int := sealV fun r top list q k mo => (blQ r top list q k mo).s.sz
noncomputable def blK : Row → Int → Int → Row → Nat → Int → Nat := sealV fun r top list q k mo => (blQ r top list q k mo).s.t.l.length
noncomputable def blS : Row → Int → Int → Row → Nat → Int → Int := sealV fun r top list q k mo => ((smN (blQ r top list q k mo).s.t.l : Nat) : Int)
noncomputable def blM : Row → Int → Int → Row → Nat → Int → Int := sealV fun r top list q k mo => (blQ r top list q k mo).s.t.most
noncomputable def blF : Row → Int → Int → Row → Nat → Int → List Value := sealV fun r top list q k mo => gC enF ((blQ r top list q k mo).s.t.l ++ (blQ r top list q k mo).s.t.j)
def IsB1 (r : Row) (m : Nat) : Prop := ∃ b : List UInt8, r = bRo b ∧ m = b.length ∧ b.length ≤ 1048576
def TopP (top list mo : Int) : Prop := top ≤ 65536 ∧ 0 ≤ list ∧ list ≤ 2147483647 ∧ mo ≤ top
noncomputable def eBl : EntM := (21, fun a r => match a, r with
  | [.pointer (some ⟨0, 0, none⟩)], [⟨[.pointer (some ⟨1, 0, none⟩), .slice (some ⟨2, 0, none⟩) m 1, .int .i64 i, .slice none 0 0, .int .i64 sum, .int .i64 sz], false, .cells false⟩, ⟨[.pointer (some ⟨3, 0, none⟩), .int .i64 top, .int .i64 list, .bool bad], false, .cells false⟩, r2, ⟨[.slice (some ⟨4, 0, none⟩) k 2, .int .i64 s, .int .i64 mo], false, .cells false⟩, r4] =>
    some ((IsB1 r2 m ∧ i = 0 ∧ sum = 0 ∧ sz = 0) ∧ IsTs r4 k s mo ∧ TopP top list mo, mkE (blB r2 top list r4 k mo) (.tuple ⟨[]⟩) (blE r2 top list r4 k mo) (blA r2 top list r4 k mo), 7, [(0, rd0 m (blA r2 top list r4 k mo) (blN r2 top list r4 k mo) (blU r2 top list r4 k mo) (blZ r2 top list r4 k mo) 5), (1, rd1 top list bad 3), (2, r2), (3, rd4 (blK r2 top list r4 k mo) (blS r2 top list r4 k mo) (blM r2 top list r4 k mo) 6), (5, ⟨blW r2 top list r4 k mo, false, .cells true⟩), (6, ⟨blF r2 top list r4 k mo, false, .cells true⟩)])
  | _, _ => none)
def rdB (m : Nat) : Row := ⟨[.pointer (some ⟨1, 0, none⟩), .slice (some ⟨2, 0, none⟩) m 1, .int .i64 0, .slice none 0 0, .int .i64 0, .int .i64 0], false, .cells false⟩
noncomputable def tBl : List EntM := [eBl]
noncomputable abbrev EtBl : Env := envT Try.prog tBl
theorem Bl_vc (b : List UInt8) (top list : Int) (bad : Bool) (t u : Tb) (s0 e s : Int) (V : List Wr) (bad2 : Bool) : mcall EtBl noM 60 9 [.pointer (some ⟨0, 0, none⟩), .slice (some ⟨1, 0, none⟩) b.length 1] ⟨mkR (nums 0 [rd1 top list bad 2, bRo b, rd4 t.l.length s0 t.most 3, gOwn enF (t.l ++ t.j)]), 4⟩ (retIsM 4 (.tuple ⟨[.slice (some ⟨4, 0, none⟩) V.length 3, .int .i64 e]⟩) 6 [(0, rd1 top list bad2 2), (1, bRo b), (2, rd4 u.l.length s u.most 5), (4, gOwn enW V), (5, gOwn enF (u.l ++ u.j))]) =
  (br (bad) ((List.length V = 0) /\ ((e = (1 : Int)) /\ ((0 = 0) /\ ((top = top) /\ ((list = list) /\ ((bad2 = bad) /\ ((Eq (α := List Value) (bCells b) (bCells b)) /\
  ((Plain (bCells b)) /\ ((0 = 0) /\ ((List.length u.1 = List.length t.1) /\ ((s = s0) /\ ((u.3 = t.3) /\ ((Eq (α := List Value) (gC enW V) ([])) /\ ((Eq (α := List Value)
  (gC enF (u.1 ++ u.2)) (gC enF (t.1 ++ t.2))) /\ ((Plain (gC enF (u.1 ++ u.2))) /\ True))))))))))))))) ((((True /\ True) /\ (((True /\ ((0 + List.length b * 1 <=
  List.length (bCells b) /\ Plain (List.take (List.length b * 1) (List.drop 0 (bCells b)))) /\ (True /\ (True /\ (True /\ (True /\ True)))))) /\ ((True /\ (True /\ (True /\
  (True /\ True)))) /\ (True /\ ((True /\ (True /\ (True /\ True))) /\ (Plain (gC enF (t.1 ++ t.2)) /\ True))))) /\ ((Plain (blW (Row.mk (List.take (List.length b * 1)
  (List.drop 0 (bCells b))) true (Ob.cells true)) top list (Row.mk (gC enF (t.1 ++ t.2)) false (Ob.cells true)) (List.length t.1) t.3) /\ (Plain (blF (Row.mk (List.take
  (List.length b * 1) (List.drop 0 (bCells b))) true (Ob.cells true)) top list (Row.mk (gC enF (t.1 ++ t.2)) false (Ob.cells true)) (List.length t.1) t.3) /\ True)) /\
  ((IsB1 (Row.mk (List.take (List.length b * 1) (List.drop 0 (bCells b))) true (Ob.cells true)) (List.length b) /\ ((0 : Int) = (0 : Int) /\ ((0 : Int) = (0 : Int) /\ (0 :
  Int) = (0 : Int)))) /\ (IsTs (Row.mk (gC enF (t.1 ++ t.2)) false (Ob.cells true)) (List.length t.1) s0 t.3 /\ TopP top list t.3)))))) /\ (br (blB (Row.mk (List.take
  (List.length b * 1) (List.drop 0 (bCells b))) true (Ob.cells true)) top list (Row.mk (gC enF (t.1 ++ t.2)) false (Ob.cells true)) (List.length t.1) t.3) ((0 = 0) /\
  ((List.length V = blN (Row.mk (List.take (List.length b * 1) (List.drop 0 (bCells b))) true (Ob.cells true)) top list (Row.mk (gC enF (t.1 ++ t.2)) false (Ob.cells true))
  (List.length t.1) t.3) /\ ((e = (0 : Int)) /\ ((0 = 0) /\ ((top = top) /\ ((list = list) /\ ((bad2 = bad) /\ ((Eq (α := List Value) (bCells b) (bCells b)) /\ ((Plain
  (bCells b)) /\ ((0 = 0) /\ ((List.length u.1 = blK (Row.mk (List.take (List.length b * 1) (List.drop 0 (bCells b))) true (Ob.cells true)) top list (Row.mk (gC enF (t.1 ++
  t.2)) false (Ob.cells true)) (List.length t.1) t.3) /\ ((s = blS (Row.mk (List.take (List.length b * 1) (List.drop 0 (bCells b))) true (Ob.cells true)) top list (Row.mk
  (gC enF (t.1 ++ t.2)) false (Ob.cells true)) (List.length t.1) t.3) /\ ((u.3 = blM (Row.mk (List.take (List.length b * 1) (List.drop 0 (bCells b))) true (Ob.cells true))
  top list (Row.mk (gC enF (t.1 ++ t.2)) false (Ob.cells true)) (List.length t.1) t.3) /\ ((Eq (α := List Value) (gC enW V) (blW (Row.mk (List.take (List.length b * 1)
  (List.drop 0 (bCells b))) true (Ob.cells true)) top list (Row.mk (gC enF (t.1 ++ t.2)) false (Ob.cells true)) (List.length t.1) t.3)) /\ ((Plain (gC enW V)) /\ ((Eq (α :=
  List Value) (gC enF (u.1 ++ u.2)) (blF (Row.mk (List.take (List.length b * 1) (List.drop 0 (bCells b))) true (Ob.cells true)) top list (Row.mk (gC enF (t.1 ++ t.2)) false
  (Ob.cells true)) (List.length t.1) t.3)) /\ ((Plain (gC enF (u.1 ++ u.2))) /\ True))))))))))))))))) ((Value.int IntKind.i64 (blE (Row.mk (List.take (List.length b * 1)
  (List.drop 0 (bCells b))) true (Ob.cells true)) top list (Row.mk (gC enF (t.1 ++ t.2)) false (Ob.cells true)) (List.length t.1) t.3) = Value.int IntKind.i64 (blE (Row.mk
  (List.take (List.length b * 1) (List.drop 0 (bCells b))) true (Ob.cells true)) top list (Row.mk (gC enF (t.1 ++ t.2)) false (Ob.cells true)) (List.length t.1) t.3)) /\
  ((List.length V = 0) /\ ((e = blE (Row.mk (List.take (List.length b * 1) (List.drop 0 (bCells b))) true (Ob.cells true)) top list (Row.mk (gC enF (t.1 ++ t.2)) false
  (Ob.cells true)) (List.length t.1) t.3) /\ ((0 = 0) /\ ((top = top) /\ ((list = list) /\ ((bad2 = true) /\ ((Eq (α := List Value) (bCells b) (bCells b)) /\ ((Plain (bCells
  b)) /\ ((0 = 0) /\ ((List.length u.1 = blK (Row.mk (List.take (List.length b * 1) (List.drop 0 (bCells b))) true (Ob.cells true)) top list (Row.mk (gC enF (t.1 ++ t.2))
  false (Ob.cells true)) (List.length t.1) t.3) /\ ((s = blS (Row.mk (List.take (List.length b * 1) (List.drop 0 (bCells b))) true (Ob.cells true)) top list (Row.mk (gC enF
  (t.1 ++ t.2)) false (Ob.cells true)) (List.length t.1) t.3) /\ ((u.3 = blM (Row.mk (List.take (List.length b * 1) (List.drop 0 (bCells b))) true (Ob.cells true)) top list
  (Row.mk (gC enF (t.1 ++ t.2)) false (Ob.cells true)) (List.length t.1) t.3) /\ ((Eq (α := List Value) (gC enW V) ([])) /\ ((Eq (α := List Value) (gC enF (u.1 ++ u.2)) (blF
  (Row.mk (List.take (List.length b * 1) (List.drop 0 (bCells b))) true (Ob.cells true)) top list (Row.mk (gC enF (t.1 ++ t.2)) false (Ob.cells true)) (List.length t.1)
  t.3)) /\ ((Plain (gC enF (u.1 ++ u.2))) /\ True))))))))))))))))))) := by kernel_rfl
theorem L_con (x : Cx) (bad : Bool) (t : Tb) (h1 : x.b.length ≤ 1048576) (h2 : Ok t) (h3 : TopP x.top x.list t.most) :
    ConM Try.prog 21 [.pointer (some ⟨0, 0, none⟩)] [rdB x.b.length, rd1 x.top x.list bad 3, bRo x.b, rd4 t.l.length (smN t.l : Nat) t.most 4, gOwn enF (t.l ++ t.j)] (mkE (isOk (blO x t).e) (.tuple ⟨[]⟩) ((blO x t).e : Nat) ((blO x t).s.i : Nat)) 7 [(0, rd0 x.b.length ((blO x t).s.i : Nat) (blO x t).s.W.length (blO x t).s.sum (blO x t).s.sz 5), (1, rd1 x.top x.list bad 3), (2, bRo x.b), (3, rd4 (blO x t).s.t.l.length (smN (blO x t).s.t.l : Nat) (blO x t).s.t.most 6), (5, gOwn enW (blO x t).s.W), (6, gOwn enF ((blO x t).s.t.l ++ (blO x t).s.t.j))] := by
  refine conM_vc (E := EtL) tk.mixed (calls_envT tL_ok) (lok_envT _ _) (M := mL) (lm_one L_piece) (L_vc x.b x.top x.list bad t (blO x t).s.t _ _ _ _ _ _ _ _) ?_
  have hf : finO ⟨x, bad, t⟩ = blO x t := by unfold finO; rw [sealV_eq]; rfl
  have one : ∀ l : List Fl, smN (l.take l.length) = smN l := fun l => by rw [List.take_length]
  refine ⟨⟨x, bad, t⟩, ⟨h1, h3.1, h3.2.1, h3.2.2.1, h2, h3.2.2.2⟩, ?_⟩
  rw [hf]
  simp only [ofNat_eq, toNat_cast, Nat.zero_add, Nat.add_zero, Nat.mul_one, List.drop_zero, bCells_len, bCells_drop, bCells_take, bCells_app, bCells_one, bCells_plain, List.length_replicate, List.length_append, List.length_take, List.length_drop, List.take_length, and_true, true_and, and_self, decide_true, List.length_nil, List.length_cons, Nat.sub_zero, dB_mk, dB_ro, List.take_zero, z_smZ, one, bCells_plain, plW, fPl, and_true, true_and]
  intro side
  refine br_side (fun _ h => ?_) (fun _ h => ?_) side
  · simp [h, isOk]
  · simp [h, isOk]
theorem eBl_ok : EntOk Try.prog eBl := by
  intro a rows p v n' rl he hp
  simp only [eBl] at he
  split at he
  · simp only [Option.some.injEq, Prod.mk.injEq] at he
    obtain ⟨rfl, rfl, rfl, rfl⟩ := he
    rename_i m i sum sz top list bad r2 k s mo r4
    obtain ⟨⟨⟨b, rfl, rfl, hb⟩, rfl, rfl, rfl⟩, ⟨l, j, rfl, rfl, rfl, ho⟩, ht⟩ := hp
    have := L_con ⟨top, list, b⟩ bad ⟨l, j, mo⟩ hb ho ht
    unfold blB blE blA blN blW blU blZ blK blS blM blF
    simp only [sealV_eq]
    have eq : blQ (bRo b) top list (gOwn enF (l ++ j)) l.length mo = blO ⟨top, list, b⟩ ⟨l, j, mo⟩ := by unfold blQ; rw [dB_ro, row_T]
    rw [eq]
    exact this
  · simp at he
theorem tBl_ok : ∀ x ∈ tBl, EntOk Try.prog x := all_cons eBl_ok (all_nil)
theorem bl_mk (b : List UInt8) (top list : Int) (l j : List Fl) (mo : Int) :
    blB (bRo b) top list ⟨gC enF (l ++ j), false, .cells true⟩ l.length mo = isOk (blO ⟨top, list, b⟩ ⟨l, j, mo⟩).e ∧ blE (bRo b) top list ⟨gC enF (l ++ j), false, .cells true⟩ l.length mo = ((blO ⟨top, list, b⟩ ⟨l, j, mo⟩).e : Nat) ∧
    blN (bRo b) top list ⟨gC enF (l ++ j), false, .cells true⟩ l.length mo = (blO ⟨top, list, b⟩ ⟨l, j, mo⟩).s.W.length ∧ blW (bRo b) top list ⟨gC enF (l ++ j), false, .cells true⟩ l.length mo = gC enW (blO ⟨top, list, b⟩ ⟨l, j, mo⟩).s.W ∧
    blK (bRo b) top list ⟨gC enF (l ++ j), false, .cells true⟩ l.length mo = (blO ⟨top, list, b⟩ ⟨l, j, mo⟩).s.t.l.length ∧ blS (bRo b) top list ⟨gC enF (l ++ j), false, .cells true⟩ l.length mo = ((smN (blO ⟨top, list, b⟩ ⟨l, j, mo⟩).s.t.l : Nat) : Int) ∧
    blM (bRo b) top list ⟨gC enF (l ++ j), false, .cells true⟩ l.length mo = (blO ⟨top, list, b⟩ ⟨l, j, mo⟩).s.t.most ∧ blF (bRo b) top list ⟨gC enF (l ++ j), false, .cells true⟩ l.length mo = gC enF ((blO ⟨top, list, b⟩ ⟨l, j, mo⟩).s.t.l ++ (blO ⟨top, list, b⟩ ⟨l, j, mo⟩).s.t.j) := by
  have eq : blQ (bRo b) top list ⟨gC enF (l ++ j), false, .cells true⟩ l.length mo = blO ⟨top, list, b⟩ ⟨l, j, mo⟩ := by unfold blQ; rw [dB_ro, show rowT ⟨gC enF (l ++ j), false, .cells true⟩ l.length mo = ⟨l, j, mo⟩ from row_T l j mo]
  unfold blB blE blN blW blK blS blM blF
  simp only [sealV_eq, eq, and_self]
end Go.Proofs.Ytellbmbklfbbfaa.up
