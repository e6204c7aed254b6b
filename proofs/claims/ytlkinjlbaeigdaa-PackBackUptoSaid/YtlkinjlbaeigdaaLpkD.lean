/- Writing a block, as a call that is known. -/
import Derived.Test.YtlkinjlbaeigdaaSz9
import Derived.Test.YtlkinjlbaeigdaaRows
import Derived.Test.YtlkinjlbaeigdaaLpkC
set_option maxRecDepth 20000
set_option linter.unusedSimpArgs false
set_option linter.unusedVariables false
namespace Go.Proofs.Ytlkinjlbaeigdaa.pk
open Go Go.Ev Go.Sy Go.RowKit Go.Proofs.Ytlkinjlbaeigdaa.gl Go.Proofs.Ytlkinjlbaeigdaa.tk Go.Proofs.Ytlkinjlbaeigdaa.hf Go.Proofs.Ytlkinjlbaeigdaa.s3 Go.Proofs.Ytlkinjlbaeigdaa.tb Go.Proofs.Ytlkinjlbaeigdaa.sh
def decW : List Value → List Wr
  | .string a :: .string b :: .int _ h :: r => ⟨⟨L a, L b⟩, h⟩ :: decW r
  | _ => []
structure KBk where
  l : List Wr
  t : Tb
  b : Bool
  k : Int
theorem kn_ex (f : Row → Row → Nat → Int → Bool → Int → Nat) : ∃ g, g = f := ⟨f, rfl⟩
theorem ki_ex (f : Row → Row → Nat → Int → Bool → Int → Int) : ∃ g, g = f := ⟨f, rfl⟩
theorem kc_ex (f : Row → Row → Nat → Int → Bool → Int → List Value) : ∃ g, g = f := ⟨f, rfl⟩
noncomputable def bkN : Row → Row → Nat → Int → Bool → Int → Nat := Classical.choose (kn_ex fun r1 r3 n m b k => (szs m b k ++ (blk (decW r1.cells) (rowT r3 n m)).1).length)
noncomputable def bkB : Row → Row → Nat → Int → Bool → Int → List Value := Classical.choose (kc_ex fun r1 r3 n m b k => bCells (szs m b k ++ (blk (decW r1.cells) (rowT r3 n m)).1))
noncomputable def buN : Row → Row → Nat → Int → Bool → Int → Nat := Classical.choose (kn_ex fun r1 r3 n m b k => (blk (decW r1.cells) (rowT r3 n m)).2.l.length)
noncomputable def buS : Row → Row → Nat → Int → Bool → Int → Int := Classical.choose (ki_ex fun r1 r3 n m b k => (smN (blk (decW r1.cells) (rowT r3 n m)).2.l : Nat))
noncomputable def buC : Row → Row → Nat → Int → Bool → Int → List Value := Classical.choose (kc_ex fun r1 r3 n m b k => gC enF ((blk (decW r1.cells) (rowT r3 n m)).2.l ++ (blk (decW r1.cells) (rowT r3 n m)).2.j))
def IsW (r : Row) (n : Nat) : Prop := ∃ l, r = gRo enW l ∧ n = l.length ∧ wSum l ≤ 1000000
noncomputable def eBlk : EntM := (10, fun a r => match a, r with
  | [.pointer (some ⟨0, 0, none⟩), .slice (some ⟨1, 0, none⟩) nl 3], [⟨[.pointer (some ⟨2, 0, none⟩), .bool b, .int .i64 k], false, .cells false⟩, r1, ⟨[.slice (some ⟨3, 0, none⟩) n 2, .int .i64 s, .int .i64 m], false, .cells false⟩, r3] =>
    some (IsW r1 nl ∧ IsTk r3 n s m ∧ 0 ≤ k ∧ k ≤ 65536, .slice (some ⟨5, 0, none⟩) (bkN r1 r3 n m b k) 1, 6, [(0, ⟨[.pointer (some ⟨2, 0, none⟩), .bool false, .int .i64 k], false, .cells false⟩), (1, r1), (2, ⟨[.slice (some ⟨4, 0, none⟩) (buN r1 r3 n m b k) 2, .int .i64 (buS r1 r3 n m b k), .int .i64 m], false, .cells false⟩), (4, ⟨buC r1 r3 n m b k, false, .cells true⟩), (5, ⟨bkB r1 r3 n m b k, false, .cells true⟩)])
  | _, _ => none)
theorem decW_gC : ∀ l, decW (gC enW l) = l
  | [] => rfl
  | w :: l => by
    rw [gC_cons]
    show ⟨⟨L (bs w.f.n), L (bs w.f.v)⟩, w.h⟩ :: decW (gC enW l) = _
    rw [decW_gC l, L_bs, L_bs]
theorem z_bkN : bkN = fun r1 r3 n m b k => (szs m b k ++ (blk (decW r1.cells) (rowT r3 n m)).1).length := Classical.choose_spec (kn_ex _)
theorem z_bkB : bkB = fun r1 r3 n m b k => bCells (szs m b k ++ (blk (decW r1.cells) (rowT r3 n m)).1) := Classical.choose_spec (kc_ex _)
theorem z_buN : buN = fun r1 r3 n m b k => (blk (decW r1.cells) (rowT r3 n m)).2.l.length := Classical.choose_spec (kn_ex _)
theorem z_buS : buS = fun r1 r3 n m b k => ((smN (blk (decW r1.cells) (rowT r3 n m)).2.l : Nat) : Int) := Classical.choose_spec (ki_ex _)
theorem z_buC : buC = fun r1 r3 n m b k => gC enF ((blk (decW r1.cells) (rowT r3 n m)).2.l ++ (blk (decW r1.cells) (rowT r3 n m)).2.j) := Classical.choose_spec (kc_ex _)
theorem blk_m : ∀ (l : List Wr) (t : Tb), (blk l t).2.most = t.most
  | [], t => rfl
  | w :: l, t => by simp only [blk]; rw [blk_m l, rowU_m]
theorem ok_blk : ∀ (l : List Wr) (t : Tb), Ok t → Ok (blk l t).2
  | [], _, h => h
  | w :: l, t, h => by simp only [blk]; exact ok_blk l _ (ok_row _ _ _ h)
theorem eBlk_ok : EntOk Try.prog eBlk := by
  intro a rows p v n' rl he hp
  simp only [eBlk] at he
  split at he
  · simp only [Option.some.injEq, Prod.mk.injEq] at he
    obtain ⟨rfl, rfl, rfl, rfl⟩ := he
    rename_i nl b k r1 n s m r3
    obtain ⟨⟨w, rfl, rfl, hw⟩, ⟨l, j, rfl, rfl, rfl, ok⟩, h1, h2⟩ := hp
    have := Bk_con ⟨l, j, m⟩ w b k ok hw h1 h2
    simp only [blk_m] at this
    rw [z_bkN, z_bkB, z_buN, z_buS, z_buC]
    have e1 : (gRo enW w).cells = gC enW w := rfl
    have e2 : ∀ m, rowT (gOwn enF (l ++ j)) l.length m = ⟨l, j, m⟩ := fun m => row_T l j m
    simp only [e1, decW_gC, e2]
    exact this
  · simp at he
theorem blk_len : ∀ (l : List Wr) (t : Tb), Ok t → wSum l ≤ 1000000 → (blk l t).1.length ≤ wSum l
  | [], _, _, _ => Nat.le_refl _
  | w :: l, t, ok, h => by
    have e : wSum (w :: l) = fbN w.f + wSum l := by unfold wSum; rw [List.map_cons, List.sum_cons]
    have fb : fbN w.f = w.f.n.length + w.f.v.length + 32 := rfl
    have h1 := rowL_len t w.f w.h ok (by omega) (by omega)
    have h2 := blk_len l (rowU t w.f w.h) (ok_row _ _ _ ok) (by omega)
    simp only [blk, List.length_append]
    omega
end Go.Proofs.Ytlkinjlbaeigdaa.pk
