/- The store's rows: nodes, the map of keys. -/
import Derived.Test.YtcjbpmphkmcmjaaSz9
import Derived.Test.YtcjbpmphkmcmjaaRows
import Derived.Test.YtcjbpmphkmcmjaaLsoA
import Derived.Test.YtcjbpmphkmcmjaaLints
set_option maxRecDepth 20000
set_option linter.unusedSimpArgs false
set_option linter.unusedVariables false
namespace Go.Proofs.Ytcjbpmphkmcmjaa.so
open Go Go.Ev Go.Sy Go.RowKit Go.Proofs.Ytcjbpmphkmcmjaa.gl Go.Proofs.Ytcjbpmphkmcmjaa.tk Go.Proofs.Ytcjbpmphkmcmjaa.cp Go.Proofs.Ytcjbpmphkmcmjaa.ic
noncomputable def gsF (l : List Fl) : Value := .slice (some ⟨gCode (gC enF l), 0, some 0⟩) l.length 2
noncomputable def gsI (l : List Int) : Value := .slice (some ⟨gCode (iCells .i64 l), 0, some 0⟩) l.length 1
noncomputable def ndC (n : Nd) : List Value := [.string n.x.m, .string n.x.s, .string n.x.a, .string n.x.p, gsF n.e, .int .i64 n.x.k, .int .i64 n.x.st, gsF n.r, .int .i64 n.x.k2, .string n.x.body, .int .i64 n.x.asked, .int .i64 n.x.came, .string n.key, .int .i64 n.cost, .int .i64 n.nw, .int .i64 n.ol]
noncomputable def mEn (p : ByteArray × List Int) : List Value := [.string p.1, gsI p.2]
noncomputable def mC (m : Mp) : List Value := gC mEn m
def ssC (s : SS) (a b c : Nat) : List Value := [.int .i64 s.bud, .int .i64 s.siz, .slice (some ⟨a, 0, none⟩) s.nd.length 16, .slice (some ⟨b, 0, none⟩) s.fn 1, .int .i64 s.nw, .int .i64 s.ol, .map (some c)]
def ssR (s : SS) (a b c : Nat) : Row := ⟨ssC s a b c, false, .cells false⟩
noncomputable def mpR (m : Mp) : Row := ⟨mC m, false, .map true⟩
def GI (z o n : Nat) (l : List Int) : Prop := o + n ≤ (gCells z).length ∧ ((gCells z).drop o).take n = iCells .i64 l ∧ n = l.length
theorem gAll_F (l : List Fl) : gAll (gC enF l) = true := by
  unfold gAll gC; rw [List.all_eq_true]; intro v hv
  obtain ⟨f, _, hf⟩ := List.mem_flatMap.1 hv
  simp only [enF, List.mem_cons, List.not_mem_nil, or_false] at hf
  rcases hf with rfl | rfl <;> rfl
theorem gAll_I (l : List Int) : gAll (iCells .i64 l) = true := by
  unfold gAll iCells; rw [List.all_eq_true]; intro v hv
  obtain ⟨n, _, rfl⟩ := List.mem_map.1 hv; rfl
theorem gF (l : List Fl) : gCells (gCode (gC enF l)) = gC enF l := gCells_code (gAll_F l)
theorem gIc (l : List Int) : gCells (gCode (iCells .i64 l)) = iCells .i64 l := gCells_code (gAll_I l)
theorem gi_own (l : List Int) : GI (gCode (iCells .i64 l)) 0 l.length l := by
  refine ⟨by rw [gIc, iCells_len]; omega, ?_, rfl⟩
  rw [gIc, List.drop_zero, List.take_of_length_le (by rw [iCells_len]; exact Nat.le_refl _)]
theorem gi_get {z o n : Nat} {l : List Int} (h : GI z o n l) {i : Nat} (hi : i < n) : (gCells z)[o + i]? = some (.int .i64 (l.getD i 0)) ∧ cellI (gCells z) (o + i) = l.getD i 0 := by
  obtain ⟨h1, h2, h3⟩ := h
  have e : (gCells z)[o + i]? = (iCells .i64 l)[i]? := by
    rw [← h2, List.getElem?_take, if_pos hi, List.getElem?_drop]
  rw [iCells_get (by omega)] at e
  exact ⟨e, by unfold cellI; rw [e]⟩
theorem mC_cons (p : ByteArray × List Int) (m : Mp) : mC (p :: m) = .string p.1 :: gsI p.2 :: mC m := rfl
theorem mC_keys (k : ByteArray) : ∀ m : Mp, MKeys0 (mC m) (.string k)
  | [] => trivial
  | p :: m => ⟨trivial, mC_keys k m⟩
theorem mC_pos (k : ByteArray) : ∀ m : Mp, (mPos0 (mC m) (.string k) = none ∧ k ∉ m.map (·.1) ∧ mget m k = []) ∨ ∃ j, mPos0 (mC m) (.string k) = some j ∧ (mC m).drop (2 * j + 1) = gsI (mget m k) :: (mC m).drop (2 * j + 2)
  | [] => .inl ⟨rfl, by simp, rfl⟩
  | p :: m => by
    rw [mC_cons]
    unfold mPos0 mget
    simp only [sameK, ba_beq]
    by_cases h : k = p.1
    · rw [decide_eq_true h]
      exact .inr ⟨0, rfl, by rw [if_pos h.symm]; rfl⟩
    · rw [decide_eq_false h]
      simp only [cond_false]
      rw [if_neg (fun e => h e.symm)]
      rcases mC_pos k m with ⟨h1, h2, h3⟩ | ⟨j, h1, h2⟩
      · rw [h1]
        exact .inl ⟨rfl, by simp only [List.map_cons, List.mem_cons, not_or]; exact ⟨h, h2⟩, h3⟩
      · rw [h1]
        refine .inr ⟨j + 1, rfl, ?_⟩
        rw [show 2 * (j + 1) + 1 = (2 * j + 1) + 1 + 1 by omega, show 2 * (j + 1) + 2 = (2 * j + 2) + 1 + 1 by omega]
        simpa using h2
theorem mC_one (k : ByteArray) (m : Mp) : (mpOne (mC m) (.string k) = [] ∧ mget m k = []) ∨ mpOne (mC m) (.string k) = [gsI (mget m k)] := by
  rw [mpOne_eq]; unfold mpOne0
  rcases mC_pos k m with ⟨h1, _, h3⟩ | ⟨j, h1, h2⟩
  · rw [h1]; exact .inl ⟨rfl, h3⟩
  · rw [h1]; simp only; rw [h2]; exact .inr rfl
theorem mC_isone (k : ByteArray) (m : Mp) : IsOne (mpOne (mC m) (.string k)) (.slice (some ⟨cellZ (mpOne (mC m) (.string k)) 0, cellO (mpOne (mC m) (.string k)) 0, some 0⟩) (cellN (mpOne (mC m) (.string k)) 0) 1) := by
  intro x hx
  rcases mC_one k m with ⟨h, _⟩ | h
  · rw [h] at hx; simp at hx
  · rw [h] at hx ⊢
    simp only [List.getElem?_cons_zero, Option.some.injEq] at hx
    subst hx; rfl
theorem mC_gi (k : ByteArray) (m : Mp) : GI (cellZ (mpOne (mC m) (.string k)) 0) (cellO (mpOne (mC m) (.string k)) 0) (cellN (mpOne (mC m) (.string k)) 0) (mget m k) := by
  rcases mC_one k m with ⟨h, h2⟩ | h
  · rw [h, h2]; exact ⟨Nat.zero_le _, rfl, rfl⟩
  · rw [h]; exact gi_own _
theorem mC_keysS (k : ByteArray) (m : Mp) : MKeys (mC m) (.string k) := by rw [MKeys_eq]; exact mC_keys k m
theorem mC_put (k : ByteArray) (l : List Int) (m : Mp) : mpPut (mC m) (.string k) (gsI l) = mC (mset m k l) := by
  rw [mpPut_eq]
  induction m with
  | nil => rfl
  | cons p m ih =>
    unfold mpPut0 at ih ⊢
    rw [mC_cons]
    unfold mPos0
    simp only [sameK, ba_beq]
    by_cases h : k = p.1
    · rw [decide_eq_true h]
      unfold mset
      rw [if_pos h.symm, mC_cons]
      simp [ovr]
    · rw [decide_eq_false h]
      unfold mset
      rw [if_neg (fun e => h e.symm), mC_cons, ← ih]
      simp only [cond_false]
      cases hp : mPos0 (mC m) (.string k) with
      | some j =>
        simp only [ovr]
        rw [show 2 * (j + 1) = 2 * j + 1 + 1 by omega, show 2 * j + 1 + 1 + [Value.string k, gsI l].length = (2 * j + [Value.string k, gsI l].length) + 1 + 1 by simp]
        simp only [List.take_succ_cons, List.drop_succ_cons, List.cons_append]
      | none => simp
theorem mC_del (k : ByteArray) (m : Mp) : mpDel (mC m) (.string k) = mC (mdel m k) := by
  rw [mpDel_eq]
  induction m with
  | nil => rfl
  | cons p m ih =>
    unfold mpDel0 at ih ⊢
    rw [mC_cons]
    unfold mPos0
    simp only [sameK, ba_beq]
    by_cases h : k = p.1
    · rw [decide_eq_true h]
      unfold mdel
      rw [if_pos h.symm]
      simp
    · rw [decide_eq_false h]
      unfold mdel
      rw [if_neg (fun e => h e.symm), mC_cons, ← ih]
      simp only [cond_false]
      cases hp : mPos0 (mC m) (.string k) with
      | some j =>
        simp only
        rw [show 2 * (j + 1) = 2 * j + 1 + 1 by omega, show 2 * j + 1 + 1 + 2 = (2 * j + 2) + 1 + 1 by omega]
        simp only [List.take_succ_cons, List.drop_succ_cons, List.cons_append]
      | none => simp
theorem mC_plain (m : Mp) : Plain (mC m) := gC_plain (fun p => by intro v hv; simp only [mEn, List.mem_cons, List.not_mem_nil, or_false] at hv; rcases hv with rfl | rfl <;> rfl) m
theorem ndC_len (n : Nd) : (ndC n).length = 16 := rfl
theorem nLen (l : List Nd) : (gC ndC l).length = l.length * 16 := gC_len ndC_len l
theorem nPl (l : List Nd) : Plain (gC ndC l) := gC_plain (fun p => by
  intro v hv
  simp only [ndC, List.mem_cons, List.not_mem_nil, or_false] at hv
  rcases hv with rfl | rfl | rfl | rfl | rfl | rfl | rfl | rfl | rfl | rfl | rfl | rfl | rfl | rfl | rfl | rfl <;> rfl) l
theorem nAt (l : List Nd) (i j : Nat) (hi : i < l.length) (hj : j < 16) : (gC ndC l)[i * 16 + j]? = (ndC (gN l i))[j]? := by
  rw [gC_get ndC_len l i j hi hj]
  unfold gN; rw [List.getD_eq_getElem?_getD, List.getElem?_eq_getElem hi]; rfl
theorem nGetA (l : List Nd) (i : Nat) (hi : i < l.length) : (gC ndC l)[i * 16]? = some (.string (gN l i).x.m) ∧ (gC ndC l)[i * 16 + 1]? = some (.string (gN l i).x.s) ∧ (gC ndC l)[i * 16 + 2]? = some (.string (gN l i).x.a) ∧ (gC ndC l)[i * 16 + 3]? = some (.string (gN l i).x.p) ∧ (gC ndC l)[i * 16 + 4]? = some (.slice (some ⟨gCode (gC enF (gN l i).e), 0, some 0⟩) (gN l i).e.length 2) ∧ (gC ndC l)[i * 16 + 5]? = some (.int .i64 (gN l i).x.k) ∧ (gC ndC l)[i * 16 + 6]? = some (.int .i64 (gN l i).x.st) ∧ (gC ndC l)[i * 16 + 7]? = some (.slice (some ⟨gCode (gC enF (gN l i).r), 0, some 0⟩) (gN l i).r.length 2) ∧ (gC ndC l)[i * 16 + 8]? = some (.int .i64 (gN l i).x.k2) ∧ (gC ndC l)[i * 16 + 9]? = some (.string (gN l i).x.body) ∧ (gC ndC l)[i * 16 + 10]? = some (.int .i64 (gN l i).x.asked) ∧ (gC ndC l)[i * 16 + 11]? = some (.int .i64 (gN l i).x.came) ∧ (gC ndC l)[i * 16 + 12]? = some (.string (gN l i).key) ∧ (gC ndC l)[i * 16 + 13]? = some (.int .i64 (gN l i).cost) ∧ (gC ndC l)[i * 16 + 14]? = some (.int .i64 (gN l i).nw) ∧ (gC ndC l)[i * 16 + 15]? = some (.int .i64 (gN l i).ol) :=
  ⟨nAt l i 0 hi (by decide), nAt l i 1 hi (by decide), nAt l i 2 hi (by decide), nAt l i 3 hi (by decide), nAt l i 4 hi (by decide), nAt l i 5 hi (by decide), nAt l i 6 hi (by decide), nAt l i 7 hi (by decide), nAt l i 8 hi (by decide), nAt l i 9 hi (by decide), nAt l i 10 hi (by decide), nAt l i 11 hi (by decide), nAt l i 12 hi (by decide), nAt l i 13 hi (by decide), nAt l i 14 hi (by decide), nAt l i 15 hi (by decide)⟩
theorem nGetB (l : List Nd) (i : Nat) (hi : i < l.length) : cellS (gC ndC l) (i * 16) = (gN l i).x.m ∧ cellS (gC ndC l) (i * 16 + 1) = (gN l i).x.s ∧ cellS (gC ndC l) (i * 16 + 2) = (gN l i).x.a ∧ cellS (gC ndC l) (i * 16 + 3) = (gN l i).x.p ∧ cellZ (gC ndC l) (i * 16 + 4) = gCode (gC enF (gN l i).e) ∧ cellO (gC ndC l) (i * 16 + 4) = 0 ∧ cellN (gC ndC l) (i * 16 + 4) = (gN l i).e.length ∧ cellI (gC ndC l) (i * 16 + 5) = (gN l i).x.k ∧ cellI (gC ndC l) (i * 16 + 6) = (gN l i).x.st ∧ cellZ (gC ndC l) (i * 16 + 7) = gCode (gC enF (gN l i).r) ∧ cellO (gC ndC l) (i * 16 + 7) = 0 ∧ cellN (gC ndC l) (i * 16 + 7) = (gN l i).r.length ∧ cellI (gC ndC l) (i * 16 + 8) = (gN l i).x.k2 ∧ cellS (gC ndC l) (i * 16 + 9) = (gN l i).x.body ∧ cellI (gC ndC l) (i * 16 + 10) = (gN l i).x.asked ∧ cellI (gC ndC l) (i * 16 + 11) = (gN l i).x.came ∧ cellS (gC ndC l) (i * 16 + 12) = (gN l i).key ∧ cellI (gC ndC l) (i * 16 + 13) = (gN l i).cost ∧ cellI (gC ndC l) (i * 16 + 14) = (gN l i).nw ∧ cellI (gC ndC l) (i * 16 + 15) = (gN l i).ol := by
  obtain ⟨a0, a1, a2, a3, a4, a5, a6, a7, a8, a9, a10, a11, a12, a13, a14, a15⟩ := nGetA l i hi
  unfold cellS cellI cellZ cellO cellN
  rw [a0, a1, a2, a3, a4, a5, a6, a7, a8, a9, a10, a11, a12, a13, a14, a15]
  simp only [and_self]
theorem gF0 (l : List Fl) : 0 + l.length * 2 ≤ (gCells (gCode (gC enF l))).length := by rw [gF, fLen]; omega
theorem gFt (l : List Fl) : List.take (l.length * 2) (List.drop 0 (gCells (gCode (gC enF l)))) = gC enF l := by rw [gF, List.drop_zero, List.take_of_length_le (by rw [fLen]; exact Nat.le_refl _)]
end Go.Proofs.Ytcjbpmphkmcmjaa.so
