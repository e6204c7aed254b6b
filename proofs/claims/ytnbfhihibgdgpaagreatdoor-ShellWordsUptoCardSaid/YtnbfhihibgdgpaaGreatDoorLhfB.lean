/- The book as a list; closed calls, with the book known. -/
import Derived.Test.YtnbfhihibgdgpaaGreatDoorSz9
import Derived.Test.YtnbfhihibgdgpaaGreatDoorRows
import Derived.Test.YtnbfhihibgdgpaaGreatDoorLhfM
set_option maxRecDepth 20000
set_option linter.unusedSimpArgs false
set_option linter.unusedVariables false
namespace Go.Proofs.YtnbfhihibgdgpaaGreatDoor.hf
open Go Go.Ev Go.Sy Go.RowKit Go.Proofs.YtnbfhihibgdgpaaGreatDoor.gl Go.Proofs.YtnbfhihibgdgpaaGreatDoor.tk
def codeL : List Nat := [8184, 8388568, 268435426, 268435427, 268435428, 268435429, 268435430, 268435431, 268435432, 16777194, 1073741820, 268435433, 268435434, 1073741821, 268435435, 268435436, 268435437, 268435438, 268435439, 268435440, 268435441, 268435442, 1073741822, 268435443, 268435444, 268435445, 268435446, 268435447, 268435448, 268435449, 268435450, 268435451,
20, 1016, 1017, 4090, 8185, 21, 248, 2042, 1018, 1019, 249, 2043, 250, 22, 23, 24, 0, 1, 2, 25, 26, 27, 28, 29, 30, 31, 92, 251, 32764, 32, 4091, 1020,
8186, 33, 93, 94, 95, 96, 97, 98, 99, 100, 101, 102, 103, 104, 105, 106, 107, 108, 109, 110, 111, 112, 113, 114, 252, 115, 253, 8187, 524272, 8188, 16380, 34,
32765, 3, 35, 4, 36, 5, 37, 38, 39, 6, 116, 117, 40, 41, 42, 7, 43, 118, 44, 8, 9, 45, 119, 120, 121, 122, 123, 32766, 2044, 16381, 8189, 268435452,
1048550, 4194258, 1048551, 1048552, 4194259, 4194260, 4194261, 8388569, 4194262, 8388570, 8388571, 8388572, 8388573, 8388574, 16777195, 8388575, 16777196, 16777197, 4194263, 8388576, 16777198, 8388577, 8388578, 8388579, 8388580, 2097116, 4194264, 8388581, 4194265, 8388582, 8388583, 16777199,
4194266, 2097117, 1048553, 4194267, 4194268, 8388584, 8388585, 2097118, 8388586, 4194269, 4194270, 16777200, 2097119, 4194271, 8388587, 8388588, 2097120, 2097121, 4194272, 2097122, 8388589, 4194273, 8388590, 8388591, 1048554, 4194274, 4194275, 4194276, 8388592, 4194277, 4194278, 8388593,
67108832, 67108833, 1048555, 524273, 4194279, 8388594, 4194280, 33554412, 67108834, 67108835, 67108836, 134217694, 134217695, 67108837, 16777201, 33554413, 524274, 2097123, 67108838, 134217696, 134217697, 67108839, 134217698, 16777202, 2097124, 2097125, 67108840, 67108841, 268435453, 134217699, 134217700, 134217701,
1048556, 16777203, 1048557, 2097126, 4194281, 2097127, 2097128, 8388595, 4194282, 4194283, 33554414, 33554415, 16777204, 16777205, 67108842, 8388596, 67108843, 134217702, 67108844, 67108845, 134217703, 134217704, 134217705, 134217706, 134217707, 268435454, 134217708, 134217709, 134217710, 134217711, 134217712, 67108846,
1073741823]
def bookL : List Nat := lenL ++ (codeL ++ (ordL ++ (fstL ++ (cntL ++ stL))))
noncomputable def cH : FuncId → List Value → List Row → Option (Prop × Value × List Row)
  | 331, [], [] => some (True, .pointer (some ⟨0, 0, none⟩), [⟨nC bookL, false, .cells true⟩])
  | _, _, _ => none
def kH (f : FuncId) : Bool := Nat.beq f 331
noncomputable def oH : CallF := fun f args h => bif Nat.beq f 331 then (match tOf Tryz.prog cH kH f args h with | some (_, v, h') => some (endV v, h') | none => none) else none
noncomputable abbrev EH : Env := envC Tryz.prog cH kH
theorem code_all : ∀ s : Fin 257, codeL.getD s.1 0 = codeP s.1 := by decide +kernel
theorem book_get (k : Nat) (h : k < 864) : bookL.getD k 0 = f3 257 k := by
  have hl : lenL.length = 257 := rfl
  have hc : codeL.length = 257 := rfl
  have ho : ordL.length = 257 := rfl
  have hf : fstL.length = 31 := rfl
  have hn : cntL.length = 31 := rfl
  have ap : ∀ (a b : List Nat) (i : Nat), (a ++ b).getD i 0 = if i < a.length then a.getD i 0 else b.getD (i - a.length) 0 := fun a b i => by
    simp only [List.getD_eq_getElem?_getD]
    split
    · rename_i h; rw [List.getElem?_append_left h]
    · rename_i h; rw [List.getElem?_append_right (by omega)]
  unfold bookL
  rw [ap, ap, ap, ap, ap, hl, hc, ho, hf, hn]
  by_cases h1 : k < 257
  · rw [if_pos h1, (fB k h1).1]; rfl
  · rw [if_neg h1]
    by_cases h2 : k - 257 < 257
    · rw [if_pos h2]
      have := (fB (k - 257) h2).2.1
      rw [show 257 + (k - 257) = k by omega] at this
      rw [this, code_p _ h2]; exact code_all ⟨k - 257, h2⟩
    · rw [if_neg h2]
      by_cases h3 : k - 257 - 257 < 257
      · rw [if_pos h3]
        have := (fB (k - 257 - 257) h3).2.2
        rw [show 514 + (k - 257 - 257) = k by omega] at this
        rw [this]; rfl
      · rw [if_neg h3]
        by_cases h4 : k - 257 - 257 - 257 < 31
        · rw [if_pos h4]
          have := (fZ (k - 257 - 257 - 257) h4).1
          rw [show 771 + (k - 257 - 257 - 257) = k by omega] at this
          rw [this]; rfl
        · rw [if_neg h4]
          by_cases h5 : k - 257 - 257 - 257 - 31 < 31
          · rw [if_pos h5]
            have := (fZ (k - 257 - 257 - 257 - 31) h5).2.1
            rw [show 802 + (k - 257 - 257 - 257 - 31) = k by omega] at this
            rw [this]; rfl
          · rw [if_neg h5]
            have := (fZ (k - 257 - 257 - 257 - 31 - 31) (by omega)).2.2
            rw [show 833 + (k - 257 - 257 - 257 - 31 - 31) = k by omega] at this
            rw [this]; rfl
theorem book_eq : tbl 864 (f3 257) = bookL := by
  apply List.ext_getElem?
  intro k
  by_cases h : k < 864
  · have h1 : k < (tbl 864 (f3 257)).length := by unfold tbl; simpa using h
    have h2 : k < bookL.length := h
    have e := book_get k h
    have e2 := tb_getD 864 (f3 257) k h
    rw [List.getD_eq_getElem?_getD, List.getElem?_eq_getElem h2] at e
    rw [List.getD_eq_getElem?_getD, List.getElem?_eq_getElem h1] at e2
    simp only [Option.getD_some] at e e2
    rw [List.getElem?_eq_getElem h1, List.getElem?_eq_getElem h2, e, e2]
  · rw [List.getElem?_eq_none (by unfold tbl; simp; omega), List.getElem?_eq_none (by show 864 ≤ k; omega)]
theorem openL_con : Con Tryz.prog 331 [] [] (.pointer (some ⟨0, 0, none⟩)) [⟨nC bookL, false, .cells true⟩] := by
  have := open_con
  rw [book_eq] at this
  exact this
theorem cH_ok : ∀ f a rows p v news, cH f a rows = some (p, v, news) → p → Con Tryz.prog f a rows v (rows ++ news) := by
  intro f a rows p v news h hp
  unfold cH at h
  split at h <;> simp only [Option.some.injEq, Prod.mk.injEq, reduceCtorEq] at h
  obtain ⟨rfl, rfl, rfl⟩ := h
  exact openL_con
theorem open_params : (Tryz.prog.funcs[(331 : FuncId)]?).map (fun fn => fn.params.toList) = some [] := by kernel_rfl
theorem oH_sub (f : FuncId) (args : List Value) (h : Hp) (x : Ev.End × Hp) (he : oH f args h = some x) : oOf EH f args h = some x := by
  unfold oH at he
  cases hf : Nat.beq f 331 with
  | false => rw [hf] at he; simp at he
  | true =>
    rw [hf] at he
    simp only [cond_true] at he
    have hf := Nat.eq_of_beq_eq_true hf
    subst hf
    split at he
    · rename_i p v h' ht
      simp only [Option.some.injEq] at he
      subst he
      have hp : p := by
        unfold tOf at ht
        have hk : kH 331 = true := rfl
        rw [hk] at ht
        simp only at ht
        have hps := open_params
        split at ht
        · rename_i fn hfn
          rw [hfn] at hps
          simp only [Option.map_some, Option.some.injEq] at hps
          rw [hps] at ht
          split at ht
          · rename_i c hc
            cases args with
            | cons a r => simp [cArgs] at hc
            | nil =>
              simp only [cArgs, Option.some.injEq] at hc
              subst hc
              simp only [cH, List.length_nil, List.length_cons] at ht
              cases hb : Nat.ble (h.next + (0 + 1)) 1000000 && Nat.ble 0 1000000 with
              | false => rw [hb] at ht; simp at ht
              | true =>
                rw [hb] at ht
                simp only [cond_true, bV, bRow, bRows] at ht
                simp at ht
                obtain ⟨rfl, _⟩ := ht
                exact nC_plain _
          · simp at ht
        · simp at ht
      have ht2 : EH.T 331 args h = some (p, v, h') := ht
      rw [oOf_none _ rfl]
      rw [ht2]
      simp only [hp, if_true]
    · simp at he
theorem oH_ok : CallsOk Tryz.prog oH := by
  intro B f args h r h' μ w args' he hw hargs hok
  exact calls_envC cH_ok B f args h r h' μ w args' (oH_sub f args h _ he) hw hargs hok
end Go.Proofs.YtnbfhihibgdgpaaGreatDoor.hf
