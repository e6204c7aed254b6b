/- The laws: a block is no longer than its fields' bytes; what is secret is in no table; what is written again is short. -/
import Derived.Test.YtlkinjlbaeigdaaSz9
import Derived.Test.YtlkinjlbaeigdaaRows
import Derived.Test.YtlkinjlbaeigdaaLpkE
set_option maxRecDepth 20000
set_option linter.unusedSimpArgs false
set_option linter.unusedVariables false
namespace Go.Proofs.Ytlkinjlbaeigdaa.pk
open Go Go.Ev Go.Sy Go.RowKit Go.Proofs.Ytlkinjlbaeigdaa.gl Go.Proofs.Ytlkinjlbaeigdaa.tk Go.Proofs.Ytlkinjlbaeigdaa.hf Go.Proofs.Ytlkinjlbaeigdaa.s3 Go.Proofs.Ytlkinjlbaeigdaa.tb Go.Proofs.Ytlkinjlbaeigdaa.sh
theorem wTake (l : List Wr) : (gC enW l).take (l.length * 3) = gC enW l := List.take_of_length_le (by rw [wLen]; omega)
theorem bk_mk (l : List Wr) (t : Tb) (b : Bool) (k : Int) : bkN ⟨gC enW l, true, .cells true⟩ ⟨gC enF (t.l ++ t.j), false, .cells true⟩ t.l.length t.most b k = (szs t.most b k ++ (blk l t).1).length ∧ bkB ⟨gC enW l, true, .cells true⟩ ⟨gC enF (t.l ++ t.j), false, .cells true⟩ t.l.length t.most b k = bCells (szs t.most b k ++ (blk l t).1) ∧ buN ⟨gC enW l, true, .cells true⟩ ⟨gC enF (t.l ++ t.j), false, .cells true⟩ t.l.length t.most b k = (blk l t).2.l.length ∧ buS ⟨gC enW l, true, .cells true⟩ ⟨gC enF (t.l ++ t.j), false, .cells true⟩ t.l.length t.most b k = ((smN (blk l t).2.l : Nat) : Int) ∧ buC ⟨gC enW l, true, .cells true⟩ ⟨gC enF (t.l ++ t.j), false, .cells true⟩ t.l.length t.most b k = gC enF ((blk l t).2.l ++ (blk l t).2.j) := by
  have e : rowT ⟨gC enF (t.l ++ t.j), false, .cells true⟩ t.l.length t.most = t := row_T t.l t.j t.most
  rw [z_bkN, z_bkB, z_buN, z_buS, z_buC]
  simp only [decW_gC, e, and_self]
end Go.Proofs.Ytlkinjlbaeigdaa.pk
