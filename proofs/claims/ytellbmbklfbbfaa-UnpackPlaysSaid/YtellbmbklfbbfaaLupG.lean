/- A block, read: the contract and what is known of the call. -/
import Derived.Test.YtellbmbklfbbfaaSz9
import Derived.Test.YtellbmbklfbbfaaRows
import Derived.Test.YtellbmbklfbbfaaLupF
set_option maxRecDepth 20000
set_option linter.unusedSimpArgs false
set_option linter.unusedVariables false
namespace Go.Proofs.Ytellbmbklfbbfaa.up
open Go Go.Ev Go.Sy Go.RowKit Go.Proofs.Ytellbmbklfbbfaa.gl Go.Proofs.Ytellbmbklfbbfaa.tk Go.Proofs.Ytellbmbklfbbfaa.hf Go.Proofs.Ytellbmbklfbbfaa.s3 Go.Proofs.Ytellbmbklfbbfaa.tb
noncomputable def upE (x : Cx) (bad : Bool) (t : Tb) : Nat := if bad then 1 else (blO x t).e
noncomputable def upW (x : Cx) (bad : Bool) (t : Tb) : List Wr := if bad then [] else if (blO x t).e ≠ 0 then [] else (blO x t).s.W
noncomputable def upT (x : Cx) (bad : Bool) (t : Tb) : Tb := if bad then t else (blO x t).s.t
noncomputable def upB (x : Cx) (bad : Bool) (t : Tb) : Bool := bad || !isOk (blO x t).e
noncomputable def ubE : Row → Int → Int → Bool → Row → Nat → Int → Int := sealV fun r top list bad q k mo => ((upE ⟨top, list, dB r⟩ bad (rowT q k mo) : Nat) : Int)
noncomputable def ubN : Row → Int → Int → Bool → Row → Nat → Int → Nat := sealV fun r top list bad q k mo => (upW ⟨top, list, dB r⟩ bad (rowT q k mo)).length
noncomputable def ubW : Row → Int → Int → Bool → Row → Nat → Int → List Value := sealV fun r top list bad q k mo => gC enW (upW ⟨top, list, dB r⟩ bad (rowT q k mo))
noncomputable def ubB : Row → Int → Int → Bool → Row → Nat → Int → Bool := sealV fun r top list bad q k mo => upB ⟨top, list, dB r⟩ bad (rowT q k mo)
noncomputable def ubK : Row → Int → Int → Bool → Row → Nat → Int → Nat := sealV fun r top list bad q k mo => (upT ⟨top, list, dB r⟩ bad (rowT q k mo)).l.length
noncomputable def ubS : Row → Int → Int → Bool → Row → Nat → Int → Int := sealV fun r top list bad q k mo => ((smN (upT ⟨top, list, dB r⟩ bad (rowT q k mo)).l : Nat) : Int)
noncomputable def ubM : Row → Int → Int → Bool → Row → Nat → Int → Int := sealV fun r top list bad q k mo => (upT ⟨top, list, dB r⟩ bad (rowT q k mo)).most
noncomputable def ubF : Row → Int → Int → Bool → Row → Nat → Int → List Value := sealV fun r top list bad q k mo => gC enF ((upT ⟨top, list, dB r⟩ bad (rowT q k mo)).l ++ (upT ⟨top, list, dB r⟩ bad (rowT q k mo)).j)
noncomputable def eUb : EntM := (9, fun a r => match a, r with
  | [.pointer (some ⟨0, 0, none⟩), .slice (some ⟨1, 0, none⟩) m 1], [⟨[.pointer (some ⟨2, 0, none⟩), .int .i64 top, .int .i64 list, .bool bad], false, .cells false⟩, r1, ⟨[.slice (some ⟨3, 0, none⟩) k 2, .int .i64 s, .int .i64 mo], false, .cells false⟩, r3] =>
    some (IsB1 r1 m ∧ IsTs r3 k s mo ∧ TopP top list mo, .tuple ⟨[.slice (some ⟨4, 0, none⟩) (ubN r1 top list bad r3 k mo) 3, .int .i64 (ubE r1 top list bad r3 k mo)]⟩, 6, [(0, rd1 top list (ubB r1 top list bad r3 k mo) 2), (1, r1), (2, rd4 (ubK r1 top list bad r3 k mo) (ubS r1 top list bad r3 k mo) (ubM r1 top list bad r3 k mo) 5), (4, ⟨ubW r1 top list bad r3 k mo, false, .cells true⟩), (5, ⟨ubF r1 top list bad r3 k mo, false, .cells true⟩)])
  | _, _ => none)
theorem Bl_con (x : Cx) (bad : Bool) (t : Tb) (h1 : x.b.length ≤ 1048576) (h2 : Ok t) (h3 : TopP x.top x.list t.most) :
    ConM Try.prog 9 [.pointer (some ⟨0, 0, none⟩), .slice (some ⟨1, 0, none⟩) x.b.length 1] [rd1 x.top x.list bad 2, bRo x.b, rd4 t.l.length (smN t.l : Nat) t.most 3, gOwn enF (t.l ++ t.j)] (.tuple ⟨[.slice (some ⟨4, 0, none⟩) (upW x bad t).length 3, .int .i64 (upE x bad t : Nat)]⟩) 6 [(0, rd1 x.top x.list (upB x bad t) 2), (1, bRo x.b), (2, rd4 (upT x bad t).l.length (smN (upT x bad t).l : Nat) (upT x bad t).most 5), (4, gOwn enW (upW x bad t)), (5, gOwn enF ((upT x bad t).l ++ (upT x bad t).j))] := by
  refine conM_vc (E := EtBl) tk.mixed (calls_envT tBl_ok) (lok_envT _ _) (M := noM) lm_none (Bl_vc x.b x.top x.list bad t (upT x bad t) _ _ _ (upW x bad t) _) ?_
  obtain ⟨b1, b2, b3, b4, b5, b6, b7, b8⟩ := bl_mk x.b x.top x.list t.l t.j t.most
  have hB : IsB1 (bRo x.b) x.b.length := ⟨x.b, rfl, rfl, h1⟩
  have hTs : IsTs ⟨gC enF (t.l ++ t.j), false, .cells true⟩ t.l.length (smN t.l : Nat) t.most := ⟨t.l, t.j, rfl, rfl, rfl, h2⟩
  simp only [ofNat_eq, toNat_cast, Nat.zero_add, Nat.add_zero, Nat.mul_one, List.drop_zero, bCells_len, bCells_drop, bCells_take, bCells_app, bCells_one, bCells_plain, List.length_replicate, List.length_append, List.length_take, List.length_drop, List.take_length, and_true, true_and, and_self, decide_true, List.length_nil, List.length_cons, Nat.sub_zero, dB_mk, dB_ro, List.take_zero, Nat.mul_one, List.drop_zero, bTake, bRo_eq, b1, b2, b3, b4, b5, b6, b7, b8, bCells_len, Nat.zero_add, bCells_plain, plW, fPl, hB, hTs, h3, Nat.le_refl, and_true, true_and]
  cases bad with
  | true =>
    refine br_b rfl ?_
    simp [upE, upW, upT, upB, gC]
  | false =>
    refine br_nb rfl ?_
    by_cases he : (blO x t).e = 0
    · refine br_b (by simp [isOk, he]) ?_
      simp [upE, upW, upT, upB, he, isOk]
    · refine br_nb (isOk_f he) ?_
      simp [upE, upW, upT, upB, he, isOk, gC]
theorem eUb_ok : EntOk Try.prog eUb := by
  intro a rows p v n' rl he hp
  simp only [eUb] at he
  split at he
  · simp only [Option.some.injEq, Prod.mk.injEq] at he
    obtain ⟨rfl, rfl, rfl, rfl⟩ := he
    rename_i m top list bad r1 k s mo r3
    obtain ⟨⟨b, rfl, rfl, hb⟩, ⟨l, j, rfl, rfl, rfl, ho⟩, ht⟩ := hp
    have := Bl_con ⟨top, list, b⟩ bad ⟨l, j, mo⟩ hb ho ht
    unfold ubE ubN ubW ubB ubK ubS ubM ubF
    simp only [sealV_eq, dB_ro, row_T]
    exact this
  · simp at he
theorem ub_mk (b : List UInt8) (top list : Int) (bad : Bool) (l j : List Fl) (mo : Int) (ro : Bool) (o : Ob) : ubE ⟨bCells b, ro, o⟩ top list bad ⟨gC enF (l ++ j), false, .cells true⟩ l.length mo = ((upE ⟨top, list, b⟩ bad ⟨l, j, mo⟩ : Nat) : Int) ∧ ubN ⟨bCells b, ro, o⟩ top list bad ⟨gC enF (l ++ j), false, .cells true⟩ l.length mo = (upW ⟨top, list, b⟩ bad ⟨l, j, mo⟩).length ∧ ubW ⟨bCells b, ro, o⟩ top list bad ⟨gC enF (l ++ j), false, .cells true⟩ l.length mo = gC enW (upW ⟨top, list, b⟩ bad ⟨l, j, mo⟩) ∧ ubB ⟨bCells b, ro, o⟩ top list bad ⟨gC enF (l ++ j), false, .cells true⟩ l.length mo = upB ⟨top, list, b⟩ bad ⟨l, j, mo⟩ ∧ ubK ⟨bCells b, ro, o⟩ top list bad ⟨gC enF (l ++ j), false, .cells true⟩ l.length mo = (upT ⟨top, list, b⟩ bad ⟨l, j, mo⟩).l.length ∧ ubS ⟨bCells b, ro, o⟩ top list bad ⟨gC enF (l ++ j), false, .cells true⟩ l.length mo = ((smN (upT ⟨top, list, b⟩ bad ⟨l, j, mo⟩).l : Nat) : Int) ∧ ubM ⟨bCells b, ro, o⟩ top list bad ⟨gC enF (l ++ j), false, .cells true⟩ l.length mo = (upT ⟨top, list, b⟩ bad ⟨l, j, mo⟩).most ∧ ubF ⟨bCells b, ro, o⟩ top list bad ⟨gC enF (l ++ j), false, .cells true⟩ l.length mo = gC enF ((upT ⟨top, list, b⟩ bad ⟨l, j, mo⟩).l ++ (upT ⟨top, list, b⟩ bad ⟨l, j, mo⟩).j) := by
  have er : rowT ⟨gC enF (l ++ j), false, .cells true⟩ l.length mo = ⟨l, j, mo⟩ := row_T l j mo
  unfold ubE ubN ubW ubB ubK ubS ubM ubF
  simp only [sealV_eq, er, dB_mk, and_self]
end Go.Proofs.Ytellbmbklfbbfaa.up
