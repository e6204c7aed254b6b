/- A block's reader: fields, rows, sizes. -/
import Derived.Test.YtellbmbklfbbfaaSz9
import Derived.Test.YtellbmbklfbbfaaRows
import Derived.Test.YtellbmbklfbbfaaLupB
set_option maxRecDepth 20000
set_option linter.unusedSimpArgs false
set_option linter.unusedVariables false
namespace Go.Proofs.Ytellbmbklfbbfaa.up
open Go Go.Ev Go.Sy Go.RowKit Go.Proofs.Ytellbmbklfbbfaa.gl Go.Proofs.Ytellbmbklfbbfaa.tk Go.Proofs.Ytellbmbklfbbfaa.hf Go.Proofs.Ytellbmbklfbbfaa.s3 Go.Proofs.Ytellbmbklfbbfaa.tb
def IsTl (r : Row) (k : Nat) : Prop := ∃ l j : List Fl, r = gOwn enF (l ++ j) ∧ k = l.length ∧ l.length ≤ 16777216
def no0 : Fl := ⟨[], []⟩
def lvR (b : List UInt8) (p : Nat) (x : List UInt8) : Rs Fl := if (txR b p).e ≠ 0 then ⟨(txR b p).e, (txR b p).p, no0⟩ else ⟨0, (txR b p).p, ⟨x, (txR b p).v⟩⟩
noncomputable def liR (l : List Fl) (b : List UInt8) (i n : Nat) : Rs Fl :=
  if (nuR b i n).e ≠ 0 then ⟨(nuR b i n).e, i, no0⟩
  else if (nuR b i n).v ≠ 0 then (if (getF l ((nuR b i n).v : Nat)).2 = false then ⟨5, (nuR b i n).p, no0⟩ else lvR b (nuR b i n).p (getF l ((nuR b i n).v : Nat)).1.n)
  else if (txR b (nuR b i n).p).e ≠ 0 then ⟨(txR b (nuR b i n).p).e, (txR b (nuR b i n).p).p, no0⟩
  else lvR b (txR b (nuR b i n).p).p (txR b (nuR b i n).p).v
noncomputable def rowF (r : Row) (k : Nat) : List Fl := (decF r.cells).take k
noncomputable def liB : Row → Nat → Row → Int → Int → Bool := sealV fun q k r i n => isOk (liR (rowF q k) (dB r) i.toNat n.toNat).e
noncomputable def liX : Row → Nat → Row → Int → Int → ByteArray := sealV fun q k r i n => bs (liR (rowF q k) (dB r) i.toNat n.toNat).v.n
noncomputable def liY : Row → Nat → Row → Int → Int → ByteArray := sealV fun q k r i n => bs (liR (rowF q k) (dB r) i.toNat n.toNat).v.v
noncomputable def liE : Row → Nat → Row → Int → Int → Int := sealV fun q k r i n => ((liR (rowF q k) (dB r) i.toNat n.toNat).e : Nat)
noncomputable def liA : Row → Nat → Row → Int → Int → Int := sealV fun q k r i n => ((liR (rowF q k) (dB r) i.toNat n.toNat).p : Nat)
noncomputable def eLi : EntM := (34, fun a r => match a, r with
  | [.pointer (some ⟨0, 0, none⟩), .int .i64 n], [⟨[.pointer (some ⟨1, 0, none⟩), .slice (some ⟨2, 0, none⟩) m 1, .int .i64 i, .slice (some ⟨3, 0, none⟩) w 3, .int .i64 sum, .int .i64 sz], false, .cells false⟩, ⟨[.pointer (some ⟨4, 0, none⟩), .int .i64 top, .int .i64 list, .bool bad], false, .cells false⟩, r2, r3, ⟨[.slice (some ⟨5, 0, none⟩) k 2, .int .i64 s, .int .i64 mo], false, .cells false⟩, r5] =>
    some ((IsAt r2 m i ∧ IsN n) ∧ IsWs r3 w ∧ IsTl r5 k, mkE (liB r5 k r2 i n) (.agg ⟨[.string (liX r5 k r2 i n), .string (liY r5 k r2 i n)]⟩) (liE r5 k r2 i n) (liA r5 k r2 i n), 6, [(0, rd0 m (liA r5 k r2 i n) w sum sz 3), (1, rd1 top list bad 4), (2, r2), (3, r3), (4, rd4 k s mo 5), (5, r5)])
  | _, _ => none)
noncomputable def tLi : List EntM := [eNu, eTx, eGetT]
noncomputable abbrev EtLi : Env := envT Try.prog tLi
noncomputable def tRo : List EntM := [eFb]
noncomputable abbrev EtRo : Env := envT Try.prog tRo
noncomputable def tSi : List EntM := [eNu, eResT]
noncomputable abbrev EtSi : Env := envT Try.prog tSi
theorem Li_vc (b : List UInt8) (i n : Int) (W : List Wr) (sum sz top list : Int) (bad : Bool) (k : Nat) (s m : Int) (F : List Fl) (ok : Bool) (x y : ByteArray) (e a : Int) : mcall EtLi noM 60 34 [.pointer (some ⟨0, 0, none⟩), .int .i64 n] ⟨mkR (nums 0 (rdL b i W sum sz top list bad k s m F)), 6⟩ (retIsM 6 (mkE ok (.agg ⟨[.string x, .string y]⟩) e a) 6 [(0, rd0 b.length a W.length sum sz 3), (1, rd1 top list bad 4), (2, bRo b), (3, gOwn enW W), (4, rd4 k s m 5), (5, gOwn enF F)]) =
  let z1 := (Row.mk (List.take (List.length b * 1) (List.drop 0 (bCells b))) true (Ob.cells true)); let z2 := ((0 = 0) /\ ((List.length W = List.length W) /\ ((sum = sum) /\
  ((sz = sz) /\ ((0 = 0) /\ ((top = top) /\ ((list = list) /\ ((bad = bad) /\ ((Eq (α := List Value) (bCells b) (bCells b)) /\ ((Plain (bCells b)) /\ ((Eq (α := List Value)
  (gC enW W) (gC enW W)) /\ ((Plain (gC enW W)) /\ ((0 = 0) /\ ((k = k) /\ ((s = s) /\ ((m = m) /\ ((Eq (α := List Value) (gC enF F) (gC enF F)) /\ ((Plain (gC enF F)) /\
  True)))))))))))))))))); let z3 := ((True /\ ((0 + List.length b * 1 <= List.length (bCells b) /\ Plain (List.take (List.length b * 1) (List.drop 0 (bCells b)))) /\ (True
  /\ (True /\ (True /\ (True /\ True)))))) /\ ((True /\ (True /\ (True /\ (True /\ True)))) /\ (True /\ (Plain (gC enW W) /\ ((True /\ (True /\ (True /\ True))) /\ (Plain
  (gC enF F) /\ True)))))); let z4 := (IsWs (Row.mk (gC enW W) false (Ob.cells true)) (List.length W) /\ IsFs (Row.mk (gC enF F) false (Ob.cells true))); let z5 := ((ok =
  false) /\ (((66 = 66 /\ (e = txE z1 (nuA z1 i n) /\ a = txA z1 (nuA z1 i n)))) /\ ((0 = 0) /\ ((0 = 0) /\ ((List.length b = List.length b) /\ ((a = txA z1 (nuA z1 i n)) /\
  z2)))))); let z6 := (Plain (gC enW W) /\ (Plain (gC enF F) /\ True)); let z7 := ((0 = 0) /\ ((0 = 0) /\ ((List.length b = List.length b) /\ ((a = txA z1 (txA z1 (nuA z1 i
  n))) /\ z2)))); let z8 := ((0 = 0) /\ ((0 = 0) /\ ((List.length b = List.length b) /\ ((a = nuA z1 i n) /\ z2)))); let z9 := (((True /\ True) /\ (z3 /\ (z6 /\ (IsAt z1
  (List.length b) (nuA z1 i n) /\ z4))))); ((((True /\ (True /\ True)) /\ (z3 /\ (z6 /\ ((IsAt z1 (List.length b) i /\ IsN n) /\ z4))))) /\ (br (nuB z1 i n) (br (nuV z1 i n
  != (0 : Int)) ((((True /\ (True /\ True)) /\ (((True /\ (True /\ (True /\ True))) /\ (Plain (gC enF F) /\ True)) /\ ((Plain (gC enF F) /\ True) /\ (IsTg (Row.mk (gC enF F)
  false (Ob.cells true)) k /\ I64 (nuV z1 i n)))))) /\ (br (!gfK (Row.mk (gC enF F) false (Ob.cells true)) k (nuV z1 i n)) ((ok = false) /\ (((66 = 66 /\ (e = (5 : Int) /\ a
  = nuA z1 i n))) /\ z8)) (z9 /\ (br (txB z1 (nuA z1 i n)) ((ok = true) /\ ((x = gfA (Row.mk (gC enF F) false (Ob.cells true)) k (nuV z1 i n)) /\ ((y = txV z1 (nuA z1 i n))
  /\ ((0 = 0) /\ ((0 = 0) /\ ((List.length b = List.length b) /\ ((a = txA z1 (nuA z1 i n)) /\ z2))))))) z5)))) (z9 /\ (br (txB z1 (nuA z1 i n)) ((((True /\ True) /\ (z3 /\
  (z6 /\ (IsAt z1 (List.length b) (txA z1 (nuA z1 i n)) /\ z4))))) /\ (br (txB z1 (txA z1 (nuA z1 i n))) ((ok = true) /\ ((x = txV z1 (nuA z1 i n)) /\ ((y = txV z1 (txA z1
  (nuA z1 i n))) /\ z7))) ((ok = false) /\ (((66 = 66 /\ (e = txE z1 (txA z1 (nuA z1 i n)) /\ a = txA z1 (txA z1 (nuA z1 i n))))) /\ z7)))) z5))) ((ok = false) /\ (((66 = 66
  /\ (e = nuE z1 i n /\ a = i))) /\ z8)))) := by kernel_rfl
theorem Ro_vc (b : List UInt8) (i h : Int) (x y : ByteArray) (W : List Wr) (sum sz top list : Int) (bad : Bool) (k : Nat) (s m : Int) (F : List Fl) (ok : Bool) (sum' : Int) (V : List Wr) : mcall EtRo noM 60 31 [.pointer (some ⟨0, 0, none⟩), .agg ⟨[.string x, .string y]⟩, .int .i64 h] ⟨mkR (nums 0 (rdL b i W sum sz top list bad k s m F)), 6⟩ (retIsM 6 (mkE ok (.tuple ⟨[]⟩) 2 i) 7 [(0, rd0 b.length i V.length sum' sz 6), (1, rd1 top list bad 4), (2, bRo b), (4, rd4 k s m 5), (5, gOwn enF F), (6, gOwn enW V)]) =
  let z1 := (Value.int IntKind.i64 (IntKind.wrap IntKind.i64 (sum + (↑(fbZ x y) : Int))) = Value.int IntKind.i64 (IntKind.wrap IntKind.i64 (sum + (↑(fbZ x y) : Int)))); let
  z2 := (Value.agg (Array.mk [Value.string x, Value.string y]) = Value.agg (Array.mk [Value.string x, Value.string y])); let z3 := (Value.pointer (some (Addr.mk 1 0 none)) =
  Value.pointer (some (Addr.mk 1 0 none))); let z4 := (sum' = IntKind.wrap IntKind.i64 (sum + (↑(fbZ x y) : Int))); let z5 := (Value.int IntKind.i64 list = Value.int
  IntKind.i64 list); let z6 := (Value.int IntKind.i64 sum = Value.int IntKind.i64 sum); (((((True /\ (True /\ True)) /\ True) /\ (True /\ (True /\ fbZ x y <= 1000000000))))
  /\ (z6 /\ (z6 /\ (z2 /\ (br (!decide (IntKind.wrap IntKind.i64 (sum + (↑(fbZ x y) : Int)) <= list)) (z1 /\ (z3 /\ (z5 /\ ((ok = false) /\ (((66 = 66 /\ ((2 : Int) = (2 :
  Int) /\ i = i))) /\ ((0 = 0) /\ ((0 = 0) /\ ((List.length b = List.length b) /\ ((i = i) /\ ((0 = 0) /\ ((List.length V = List.length W) /\ (z4 /\ ((sz = sz) /\ ((0 = 0)
  /\ ((top = top) /\ ((list = list) /\ ((bad = bad) /\ ((Eq (α := List Value) (bCells b) (bCells b)) /\ ((Plain (bCells b)) /\ ((0 = 0) /\ ((k = k) /\ ((s = s) /\ ((m = m)
  /\ ((Eq (α := List Value) (gC enF F) (gC enF F)) /\ ((Plain (gC enF F)) /\ ((Eq (α := List Value) (gC enW V) (gC enW W)) /\ ((Plain (gC enW V)) /\
  True))))))))))))))))))))))))))) (z1 /\ (z3 /\ (z5 /\ (br (decide (List.length W + 1 <= 16777216)) (br (decide (0 + List.length W * 3 <= List.length (gC enW W)))
  ((Value.slice (some (Addr.mk 3 0 none)) (List.length W) 3 = Value.slice (some (Addr.mk 3 0 none)) (List.length W) 3) /\ (z2 /\ ((ok = true) /\ ((0 = 0) /\ ((0 = 0) /\
  ((List.length b = List.length b) /\ ((i = i) /\ ((0 = 0) /\ ((List.length V = List.length W + 1) /\ (z4 /\ ((sz = sz) /\ ((0 = 0) /\ ((top = top) /\ ((list = list) /\
  ((bad = bad) /\ ((Eq (α := List Value) (bCells b) (bCells b)) /\ ((Plain (bCells b)) /\ ((0 = 0) /\ ((k = k) /\ ((s = s) /\ ((m = m) /\ ((Eq (α := List Value) (gC enF F)
  (gC enF F)) /\ ((Plain (gC enF F)) /\ ((Eq (α := List Value) (gC enW V) (List.take (List.length W * 3) (List.drop 0 (gC enW W)) ++ [Value.string x, Value.string y,
  Value.int IntKind.i64 h])) /\ ((Plain (gC enW V)) /\ True))))))))))))))))))))))))) False) False))))))))) := by kernel_rfl
theorem Si_vc (b : List UInt8) (i : Int) (W : List Wr) (sum sz top list : Int) (bad : Bool) (k : Nat) (s m : Int) (F : List Fl) (ok : Bool) (e a sz' : Int) (k' : Nat) (s' m' : Int) (F' : List Fl) : mcall EtSi noM 60 36 [.pointer (some ⟨0, 0, none⟩)] ⟨mkR (nums 0 (rdL b i W sum sz top list bad k s m F)), 6⟩ (retIsM 6 (mkE ok (.tuple ⟨[]⟩) e a) 7 [(0, rd0 b.length a W.length sum sz' 3), (1, rd1 top list bad 4), (2, bRo b), (3, gOwn enW W), (4, rd4 k' s' m' 6), (6, gOwn enF F')]) =
  let z1 := (Row.mk (List.take (List.length b * 1) (List.drop 0 (bCells b))) true (Ob.cells true)); let z2 := ((0 = 0) /\ ((0 = 0) /\ ((List.length b = List.length b) /\ ((a
  = nuA z1 i (5 : Int)) /\ ((0 = 0) /\ ((List.length W = List.length W) /\ ((sum = sum) /\ ((sz' = sz) /\ ((0 = 0) /\ ((top = top) /\ ((list = list) /\ ((bad = bad) /\ ((Eq
  (α := List Value) (bCells b) (bCells b)) /\ ((Plain (bCells b)) /\ ((Eq (α := List Value) (gC enW W) (gC enW W)) /\ ((Plain (gC enW W)) /\ ((0 = 0) /\ ((k' = k) /\ ((s' =
  s) /\ ((m' = m) /\ ((Eq (α := List Value) (gC enF F') (gC enF F)) /\ ((Plain (gC enF F')) /\ True)))))))))))))))))))))); let z3 := ((0 = 0) /\ ((0 = 0) /\ ((List.length b
  = List.length b) /\ ((a = nuA z1 i (5 : Int)) /\ ((0 = 0) /\ ((List.length W = List.length W) /\ ((sum = sum) /\ ((sz' = IntKind.wrap IntKind.i64 (sz + (1 : Int))) /\ ((0
  = 0) /\ ((top = top) /\ ((list = list) /\ ((bad = bad) /\ ((Eq (α := List Value) (bCells b) (bCells b)) /\ ((Plain (bCells b)) /\ ((Eq (α := List Value) (gC enW W) (gC enW
  W)) /\ ((Plain (gC enW W)) /\ ((0 = 0) /\ ((k' = rsN (Row.mk (gC enF F) false (Ob.cells true)) k m (nuV z1 i (5 : Int))) /\ ((s' = rsS (Row.mk (gC enF F) false (Ob.cells
  true)) k m (nuV z1 i (5 : Int))) /\ ((m' = rsM m (nuV z1 i (5 : Int))) /\ ((Eq (α := List Value) (gC enF F') (rsC (Row.mk (gC enF F) false (Ob.cells true)) k m (nuV z1 i
  (5 : Int)))) /\ ((Plain (gC enF F')) /\ True)))))))))))))))))))))); let z4 := ((ok = false) /\ (((66 = 66 /\ (e = (6 : Int) /\ a = nuA z1 i (5 : Int)))) /\ z2)); let z5 :=
  ((True /\ (True /\ (True /\ True))) /\ (Plain (gC enF F) /\ True)); ((((True /\ (True /\ True)) /\ (((True /\ ((0 + List.length b * 1 <= List.length (bCells b) /\ Plain
  (List.take (List.length b * 1) (List.drop 0 (bCells b)))) /\ (True /\ (True /\ (True /\ (True /\ True)))))) /\ ((True /\ (True /\ (True /\ (True /\ True)))) /\ (True /\
  (Plain (gC enW W) /\ z5)))) /\ ((Plain (gC enW W) /\ (Plain (gC enF F) /\ True)) /\ ((IsAt z1 (List.length b) i /\ IsN (5 : Int)) /\ (IsWs (Row.mk (gC enW W) false
  (Ob.cells true)) (List.length W) /\ IsFs (Row.mk (gC enF F) false (Ob.cells true)))))))) /\ (br (nuB z1 i (5 : Int)) (br (Int.ofNat (List.length W) == (0 : Int)) (br
  (decide (sz < (2 : Int))) (br (!decide (nuV z1 i (5 : Int) <= top)) z4 ((((True /\ (True /\ True)) /\ (z5 /\ ((Plain (rsC (Row.mk (gC enF F) false (Ob.cells true)) k m
  (nuV z1 i (5 : Int))) /\ True) /\ IsTb (Row.mk (gC enF F) false (Ob.cells true)) k s)))) /\ (br (!rsZ (nuV z1 i (5 : Int)) == (0 : Int)) ((ok = false) /\ (((66 = 66 /\ (e
  = rsZ (nuV z1 i (5 : Int)) /\ a = nuA z1 i (5 : Int)))) /\ z3)) ((ok = true) /\ z3)))) z4) z4) ((ok = false) /\ (((66 = 66 /\ (e = nuE z1 i (5 : Int) /\ a = i))) /\ z2)))) := by kernel_rfl
theorem eTx_ok : EntOk Try.prog eTx := by
  intro a rows p v n' rl he hp
  simp only [eTx] at he
  split at he
  · simp only [Option.some.injEq, Prod.mk.injEq] at he
    obtain ⟨rfl, rfl, rfl, rfl⟩ := he
    rename_i m i w sum sz top list bad r2 r3 k s mo r5
    obtain ⟨⟨b, rfl, rfl, hb, hi, hl⟩, ⟨W, rfl, rfl⟩, ⟨F, rfl⟩⟩ := hp
    have := Tx_con b i.toNat W sum sz top list bad k s mo F hb (by omega)
    unfold txB txV txE txA
    rw [sealV_eq, sealV_eq, sealV_eq, sealV_eq, dB_ro]
    rw [show ((i.toNat : Nat) : Int) = i by omega] at this
    exact this
  · simp at he
theorem tLi_ok : ∀ x ∈ tLi, EntOk Try.prog x := all_cons eNu_ok (all_cons eTx_ok (all_cons eGetT_ok (all_nil)))
theorem tRo_ok : ∀ x ∈ tRo, EntOk Try.prog x := all_cons eFb_ok (all_nil)
theorem tSi_ok : ∀ x ∈ tSi, EntOk Try.prog x := all_cons eNu_ok (all_cons eResT_ok (all_nil))
theorem tx_mk (b : List UInt8) (i : Nat) : txB (bRo b) i = isOk (txR b i).e ∧ txV (bRo b) i = bs (txR b i).v ∧ txE (bRo b) i = ((txR b i).e : Nat) ∧ txA (bRo b) i = ((txR b i).p : Nat) := by
  unfold txB txV txE txA
  rw [sealV_eq, sealV_eq, sealV_eq, sealV_eq, dB_ro]
  exact ⟨rfl, rfl, rfl, rfl⟩
theorem tx_p (b : List UInt8) (i : Nat) (hi : i ≤ b.length) : (txR b i).p ≤ b.length := by
  have h := nu_p b i 7 (by omega) hi
  unfold txR
  repeat' split
  all_goals (first | exact hi | exact h | (simp only; omega))
theorem tx_ok (b : List UInt8) (i : Nat) (he : (txR b i).e = 0) : i < (txR b i).p ∧ (txR b i).p ≤ b.length := by
  have h := nu_spec b i 7 (by omega)
  unfold txR at he ⊢
  split at he
  · simp at he
  rename_i g0
  rw [if_neg g0]
  split at he
  · rename_i g; exact absurd he g
  rename_i g1
  rw [if_neg g1]
  have h := h (by omega)
  split at he
  · simp at he
  rename_i g2
  rw [if_neg g2]
  split at he
  · simp at he
  rename_i g3
  rw [if_neg g3]
  repeat' split
  all_goals (simp only; omega)
theorem gf_mk (l j : List Fl) (i : Int) : gfA ⟨gC enF (l ++ j), false, .cells true⟩ l.length i = bs (getF l i).1.n ∧ gfB ⟨gC enF (l ++ j), false, .cells true⟩ l.length i = bs (getF l i).1.v ∧ gfK ⟨gC enF (l ++ j), false, .cells true⟩ l.length i = (getF l i).2 := by
  rw [z_gfA, z_gfB, z_gfK]
  simp only [show decF (gC enF (l ++ j)) = l ++ j from decF_gC _, List.take_left, and_self]
theorem isTg (l j : List Fl) (h : l.length ≤ 16777216) : IsTg ⟨gC enF (l ++ j), false, .cells true⟩ l.length := ⟨l, j, rfl, rfl, h⟩
theorem Li_con (b : List UInt8) (i n : Nat) (W : List Wr) (sum sz top list : Int) (bad : Bool) (s m : Int) (l j : List Fl) (hb : b.length ≤ 1048576) (hi : i ≤ b.length) (hn : IsN (n : Nat)) (hl : l.length ≤ 16777216) :
    ConM Try.prog 34 [.pointer (some ⟨0, 0, none⟩), .int .i64 (n : Nat)] (rdL b (i : Nat) W sum sz top list bad l.length s m (l ++ j)) (mkE (isOk (liR l b i n).e) (.agg ⟨[.string (bs (liR l b i n).v.n), .string (bs (liR l b i n).v.v)]⟩) ((liR l b i n).e : Nat) ((liR l b i n).p : Nat)) 6 [(0, rd0 b.length ((liR l b i n).p : Nat) W.length sum sz 3), (1, rd1 top list bad 4), (2, bRo b), (3, gOwn enW W), (4, rd4 l.length s m 5), (5, gOwn enF (l ++ j))] := by
  refine conM_vc (E := EtLi) tk.mixed (calls_envT tLi_ok) (lok_envT _ _) (M := noM) lm_none (Li_vc b i n W sum sz top list bad l.length s m (l ++ j) _ _ _ _ _) ?_
  obtain ⟨n1, n2, n3, n4⟩ := nu_mk b i n
  obtain ⟨x1, x2, x3, x4⟩ := tx_mk b (nuR b i n).p
  obtain ⟨y1, y2, y3, y4⟩ := tx_mk b (txR b (nuR b i n).p).p
  obtain ⟨g1, g2, g3⟩ := gf_mk l j ((nuR b i n).v : Nat)
  have pb := bCells_plain b
  have pw := plW W
  have pf := fPl (l ++ j)
  have hT := isTg l j hl
  have hA := isAt b i hb hi
  have hp := nu_p b i n (by unfold IsN at hn; omega) hi
  have hA2 := isAt b (nuR b i n).p hb hp
  have hA3 := isAt b (txR b (nuR b i n).p).p hb (tx_p _ _ hp)
  simp only [ofNat_eq, toNat_cast, Nat.zero_add, Nat.add_zero, Nat.mul_one, List.drop_zero, bCells_len, bCells_drop, bCells_take, bCells_app, bCells_one, bCells_plain, List.length_replicate, List.length_append, List.length_take, List.length_drop, List.take_length, and_true, true_and, and_self, decide_true, List.length_nil, List.length_cons, Nat.sub_zero, dB_mk, dB_ro, List.take_zero, Nat.mul_one, List.drop_zero, bTake, bRo_eq, n1, n2, n3, n4, x1, x2, x3, x4, y1, y2, y3, y4, g1, g2, g3, bCells_len, Nat.zero_add, pb, pw, pf, isWs, isFs, hn, hT, hA, hA2, hA3, Nat.le_refl, and_true, true_and]
  have ok : ∀ {x : Nat}, ¬ x ≠ 0 → isOk x = true := fun h => by simp [isOk]; omega
  by_cases h1 : (nuR b i n).e ≠ 0
  · have e : liR l b i n = ⟨(nuR b i n).e, i, no0⟩ := if_pos h1
    have ep : (nuR b i n).p = i := by unfold nuR at h1 ⊢; exact if_neg h1
    rw [e, ep]
    exact br_nb (isOk_f h1) ⟨isOk_f h1, ⟨rfl, rfl⟩, rfl⟩
  refine br_b (ok h1) ?_
  by_cases h2 : (nuR b i n).v ≠ 0
  · refine br_b (by simp; omega) ⟨by have := (nu_spec b i n (by unfold IsN at hn; omega) (by omega)).2.2; unfold I64; omega, ?_⟩
    by_cases h3 : (getF l ((nuR b i n).v : Nat)).2 = false
    · have e : liR l b i n = ⟨5, (nuR b i n).p, no0⟩ := by unfold liR; rw [if_neg h1, if_pos h2, if_pos h3]
      rw [e]
      exact br_b (by simp [h3]) ⟨rfl, ⟨rfl, rfl⟩, rfl⟩
    · have e : liR l b i n = lvR b (nuR b i n).p (getF l ((nuR b i n).v : Nat)).1.n := by unfold liR; rw [if_neg h1, if_pos h2, if_neg h3]
      rw [e]
      refine br_nb (by simpa using h3) ?_
      by_cases h4 : (txR b (nuR b i n).p).e ≠ 0
      · have e : ∀ x, lvR b (nuR b i n).p x = ⟨(txR b (nuR b i n).p).e, (txR b (nuR b i n).p).p, no0⟩ := fun x => if_pos h4
        rw [e]
        exact br_nb (isOk_f h4) ⟨isOk_f h4, ⟨rfl, rfl⟩, rfl⟩
      · have e : ∀ x, lvR b (nuR b i n).p x = ⟨0, (txR b (nuR b i n).p).p, ⟨x, (txR b (nuR b i n).p).v⟩⟩ := fun x => if_neg h4
        rw [e]
        exact br_b (ok h4) ⟨rfl, rfl, rfl, rfl⟩
  refine br_nb (by simp; omega) ?_
  by_cases h4 : (txR b (nuR b i n).p).e ≠ 0
  · have e : liR l b i n = ⟨(txR b (nuR b i n).p).e, (txR b (nuR b i n).p).p, no0⟩ := by unfold liR; rw [if_neg h1, if_neg h2, if_pos h4]
    rw [e]
    exact br_nb (isOk_f h4) ⟨isOk_f h4, ⟨rfl, rfl⟩, rfl⟩
  have e : liR l b i n = lvR b (txR b (nuR b i n).p).p (txR b (nuR b i n).p).v := by unfold liR; rw [if_neg h1, if_neg h2, if_neg h4]
  rw [e]
  refine br_b (ok h4) ?_
  by_cases h5 : (txR b (txR b (nuR b i n).p).p).e ≠ 0
  · have e : ∀ x, lvR b (txR b (nuR b i n).p).p x = ⟨(txR b (txR b (nuR b i n).p).p).e, (txR b (txR b (nuR b i n).p).p).p, no0⟩ := fun x => if_pos h5
    rw [e]
    exact br_nb (isOk_f h5) ⟨isOk_f h5, ⟨rfl, rfl⟩, rfl⟩
  · have e : ∀ x, lvR b (txR b (nuR b i n).p).p x = ⟨0, (txR b (txR b (nuR b i n).p).p).p, ⟨x, (txR b (txR b (nuR b i n).p).p).v⟩⟩ := fun x => if_neg h5
    rw [e]
    exact br_b (ok h5) ⟨rfl, rfl, rfl, rfl⟩
def roS (sum : Int) (f : Fl) : Int := sum + (fbN f : Nat)
def roW (list sum : Int) (W : List Wr) (f : Fl) (h : Int) : List Wr := if list < roS sum f then W else W ++ [⟨f, h⟩]
theorem Ro_con (b : List UInt8) (i : Int) (W : List Wr) (sum sz top list : Int) (bad : Bool) (k : Nat) (s m : Int) (F : List Fl) (f : Fl) (h : Int) (hW : W.length ≤ 10000000) (hs : 0 ≤ sum) (hs2 : sum ≤ 5000000000) (hf : fbN f ≤ 1000000000) :
    ConM Try.prog 31 [.pointer (some ⟨0, 0, none⟩), .agg ⟨[.string (bs f.n), .string (bs f.v)]⟩, .int .i64 h] (rdL b i W sum sz top list bad k s m F) (mkE (decide (roS sum f ≤ list)) (.tuple ⟨[]⟩) 2 i) 7 [(0, rd0 b.length i (roW list sum W f h).length (roS sum f) sz 6), (1, rd1 top list bad 4), (2, bRo b), (4, rd4 k s m 5), (5, gOwn enF F), (6, gOwn enW (roW list sum W f h))] := by
  refine conM_vc (E := EtRo) tk.mixed (calls_envT tRo_ok) (lok_envT _ _) (M := noM) lm_none (Ro_vc b i h _ _ W sum sz top list bad k s m F _ _ _) ?_
  have hz : fbZ (bs f.n) (bs f.v) = fbN f := by rw [z_fbZ]; rfl
  have ws : IntKind.i64.wrap (sum + (fbN f : Nat)) = roS sum f := by unfold roS; exact wr64_id (by unfold I64; omega)
  have wl : (gC enW W).length = W.length * 3 := gC_len (en := enW) (fun _ => rfl) W
  have wt : List.take (W.length * 3) (gC enW W) = gC enW W := List.take_of_length_le (by omega)
  have pb := bCells_plain b
  have pf := fPl F
  simp only [ofNat_eq, toNat_cast, Nat.zero_add, Nat.add_zero, Nat.mul_one, List.drop_zero, bCells_len, bCells_drop, bCells_take, bCells_app, bCells_one, bCells_plain, List.length_replicate, List.length_append, List.length_take, List.length_drop, List.take_length, and_true, true_and, and_self, decide_true, List.length_nil, List.length_cons, Nat.sub_zero, dB_mk, dB_ro, List.take_zero, hz, ws, wl, wt, List.drop_zero, pb, pf, plW, Nat.zero_add, Nat.le_refl, and_true, true_and]
  refine ⟨hf, ?_⟩
  by_cases h1 : list < roS sum f
  · have e : roW list sum W f h = W := if_pos h1
    rw [e]
    exact br_b (by simp; omega) ⟨by simp; omega, rfl, rfl⟩
  · have e : roW list sum W f h = W ++ [⟨f, h⟩] := if_neg h1
    rw [e]
    refine br_nb (by simp; omega) (br_dec (by omega) (br_dec trivial ⟨by simp; omega, by simp, ?_⟩))
    rw [← gC_app]; rfl
def siR (b : List UInt8) (i : Nat) (w : Nat) (sz top : Int) : Rs Unit :=
  if (nuR b i 5).e ≠ 0 then ⟨(nuR b i 5).e, i, ()⟩
  else if w = 0 ∧ sz < 2 ∧ ((nuR b i 5).v : Int) ≤ top then ⟨0, (nuR b i 5).p, ()⟩ else ⟨6, (nuR b i 5).p, ()⟩
def siT (b : List UInt8) (i : Nat) (w : Nat) (sz top : Int) (t : Tb) : Tb := if (siR b i w sz top).e = 0 then rsT t ((nuR b i 5).v : Nat) else t
def siZ (b : List UInt8) (i : Nat) (w : Nat) (sz top : Int) : Int := if (siR b i w sz top).e = 0 then sz + 1 else sz
theorem Si_con (b : List UInt8) (i : Nat) (W : List Wr) (sum sz top list : Int) (bad : Bool) (t : Tb) (hb : b.length ≤ 1048576) (hi : i ≤ b.length) (ht : top ≤ 65536) (ho : Ok t) (hz : 0 ≤ sz) (hz2 : sz ≤ 100) :
    ConM Try.prog 36 [.pointer (some ⟨0, 0, none⟩)] (rdL b (i : Nat) W sum sz top list bad t.l.length (smN t.l : Nat) t.most (t.l ++ t.j)) (mkE (isOk (siR b i W.length sz top).e) (.tuple ⟨[]⟩) ((siR b i W.length sz top).e : Nat) ((siR b i W.length sz top).p : Nat)) 7 [(0, rd0 b.length ((siR b i W.length sz top).p : Nat) W.length sum (siZ b i W.length sz top) 3), (1, rd1 top list bad 4), (2, bRo b), (3, gOwn enW W), (4, rd4 (siT b i W.length sz top t).l.length (smN (siT b i W.length sz top t).l : Nat) (siT b i W.length sz top t).most 6), (6, gOwn enF ((siT b i W.length sz top t).l ++ (siT b i W.length sz top t).j))] := by
  refine conM_vc (E := EtSi) tk.mixed (calls_envT tSi_ok) (lok_envT _ _) (M := noM) lm_none (Si_vc b i W sum sz top list bad _ _ _ _ _ _ _ _ _ _ _ _) ?_
  obtain ⟨n1, n2, n3, n4⟩ := nu_mk b i 5
  have cN : ((5 : Nat) : Int) = 5 := rfl
  rw [cN] at n1 n2 n3 n4
  have pb := bCells_plain b
  have pw := plW W
  have pf := fPl (t.l ++ t.j)
  have hn7 : IsN 5 := by unfold IsN; omega
  have hA := isAt b i hb hi
  simp only [ofNat_eq, toNat_cast, Nat.zero_add, Nat.add_zero, Nat.mul_one, List.drop_zero, bCells_len, bCells_drop, bCells_take, bCells_app, bCells_one, bCells_plain, List.length_replicate, List.length_append, List.length_take, List.length_drop, List.take_length, and_true, true_and, and_self, decide_true, List.length_nil, List.length_cons, Nat.sub_zero, dB_mk, dB_ro, List.take_zero, Nat.mul_one, List.drop_zero, bTake, bRo_eq, n1, n2, n3, n4, bCells_len, Nat.zero_add, pb, pw, pf, isWs, isFs, hn7, hA, Nat.le_refl, and_true, true_and]
  obtain ⟨r1, r2, r3⟩ := rs_mk t.l t.j t.most ((nuR b i 5).v : Nat)
  have hT : IsTb ⟨gC enF (t.l ++ t.j), false, .cells true⟩ t.l.length (smN t.l : Nat) := by
    have := ok_len t.l
    obtain ⟨o1, o2, o3⟩ := ho
    exact ⟨t.l, t.j, rfl, rfl, rfl, by omega, by omega⟩
  have wz : IntKind.i64.wrap (sz + 1) = sz + 1 := wr64_id (by unfold I64; omega)
  simp only [r1, r2, r3, hT, z_rsZ, z_rsM, wz, fPl, and_true, true_and]
  by_cases h1 : (nuR b i 5).e ≠ 0
  · have e : siR b i W.length sz top = ⟨(nuR b i 5).e, i, ()⟩ := if_pos h1
    have ep : (nuR b i 5).p = i := by unfold nuR at h1 ⊢; exact if_neg h1
    have e2 : siT b i W.length sz top t = t := by unfold siT; rw [e]; exact if_neg h1
    have e3 : siZ b i W.length sz top = sz := by unfold siZ; rw [e]; exact if_neg h1
    rw [e, e2, e3, ep]
    exact br_nb (isOk_f h1) ⟨isOk_f h1, ⟨rfl, rfl⟩, rfl, rfl, rfl, rfl, rfl, rfl⟩
  refine br_b (by simp [isOk]; omega) ?_
  have s3 := (nu_spec b i 5 (by omega) (by omega)).2.2
  by_cases h2 : W.length = 0 ∧ sz < 2 ∧ ((nuR b i 5).v : Int) ≤ top
  · have e : siR b i W.length sz top = ⟨0, (nuR b i 5).p, ()⟩ := by unfold siR; rw [if_neg h1, if_pos h2]
    have e2 : siT b i W.length sz top t = rsT t ((nuR b i 5).v : Nat) := by unfold siT; rw [e]; rfl
    have e3 : siZ b i W.length sz top = sz + 1 := by unfold siZ; rw [e]; rfl
    obtain ⟨c1, c2, c3⟩ := h2
    have er : rsE ((nuR b i 5).v : Nat) = 0 := if_neg (by omega)
    rw [e, e2, e3, er, rsT_m]
    exact br_b (by rw [c1]; rfl) (br_dec c2 (br_nb (by simp; omega) (br_nb rfl ⟨rfl, rfl, rfl, rfl, rfl, rfl, rfl⟩)))
  · have e : siR b i W.length sz top = ⟨6, (nuR b i 5).p, ()⟩ := by unfold siR; rw [if_neg h1, if_neg h2]
    have e2 : siT b i W.length sz top t = t := by unfold siT; rw [e]; rfl
    have e3 : siZ b i W.length sz top = sz := by unfold siZ; rw [e]; rfl
    rw [e, e2, e3]
    refine br_intro (fun c1 => br_if (fun c2 => br_intro (fun c3 => ?_) (fun c3 => ?_)) (fun c2 => ?_)) (fun c1 => ?_)
    · exact ⟨rfl, ⟨rfl, rfl⟩, rfl, rfl, rfl, rfl, rfl, rfl⟩
    · exact absurd ⟨by simpa using c1, c2, by simpa using c3⟩ h2
    · exact ⟨rfl, ⟨rfl, rfl⟩, rfl, rfl, rfl, rfl, rfl, rfl⟩
    · exact ⟨rfl, ⟨rfl, rfl⟩, rfl, rfl, rfl, rfl, rfl, rfl⟩
end Go.Proofs.Ytellbmbklfbbfaa.up
