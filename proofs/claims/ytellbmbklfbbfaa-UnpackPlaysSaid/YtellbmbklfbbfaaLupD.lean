/- A block's reader: what is known of its calls. -/
import Derived.Test.YtellbmbklfbbfaaSz9
import Derived.Test.YtellbmbklfbbfaaRows
import Derived.Test.YtellbmbklfbbfaaLupC
set_option maxRecDepth 20000
set_option linter.unusedSimpArgs false
set_option linter.unusedVariables false
namespace Go.Proofs.Ytellbmbklfbbfaa.up
open Go Go.Ev Go.Sy Go.RowKit Go.Proofs.Ytellbmbklfbbfaa.gl Go.Proofs.Ytellbmbklfbbfaa.tk Go.Proofs.Ytellbmbklfbbfaa.hf Go.Proofs.Ytellbmbklfbbfaa.s3 Go.Proofs.Ytellbmbklfbbfaa.tb
def decW : List Value → List Wr
  | .string a :: .string b :: .int _ h :: l => ⟨⟨L a, L b⟩, h⟩ :: decW l
  | _ => []
noncomputable def roZ : Int → ByteArray → ByteArray → Int := sealV fun sum x y => roS sum ⟨L x, L y⟩
noncomputable def roB : Int → Int → ByteArray → ByteArray → Bool := sealV fun list sum x y => decide (roS sum ⟨L x, L y⟩ ≤ list)
noncomputable def roN : Row → Int → Int → ByteArray → ByteArray → Int → Nat := sealV fun r list sum x y h => (roW list sum (decW r.cells) ⟨L x, L y⟩ h).length
noncomputable def roC : Row → Int → Int → ByteArray → ByteArray → Int → List Value := sealV fun r list sum x y h => gC enW (roW list sum (decW r.cells) ⟨L x, L y⟩ h)
def IsBm (r : Row) (m : Nat) : Prop := ∃ b : List UInt8, r = bRo b ∧ m = b.length
def IsWm (r : Row) (w : Nat) : Prop := ∃ W : List Wr, r = gOwn enW W ∧ w = W.length ∧ W.length ≤ 10000000
def FitS (sum : Int) (x y : ByteArray) : Prop := 0 ≤ sum ∧ sum ≤ 5000000000 ∧ fbN ⟨L x, L y⟩ ≤ 100000000
noncomputable def eRo : EntM := (31, fun a r => match a, r with
  | [.pointer (some ⟨0, 0, none⟩), .agg ⟨[.string x, .string y]⟩, .int .i64 h], [⟨[.pointer (some ⟨1, 0, none⟩), .slice (some ⟨2, 0, none⟩) m 1, .int .i64 i, .slice (some ⟨3, 0, none⟩) w 3, .int .i64 sum, .int .i64 sz], false, .cells false⟩, ⟨[.pointer (some ⟨4, 0, none⟩), .int .i64 top, .int .i64 list, .bool bad], false, .cells false⟩, r2, r3, ⟨[.slice (some ⟨5, 0, none⟩) k 2, .int .i64 s, .int .i64 mo], false, .cells false⟩, r5] =>
    some ((IsBm r2 m ∧ IsWm r3 w) ∧ IsFs r5 ∧ FitS sum x y, mkE (roB list sum x y) (.tuple ⟨[]⟩) 2 i, 7, [(0, rd0 m i (roN r3 list sum x y h) (roZ sum x y) sz 6), (1, rd1 top list bad 4), (2, r2), (4, rd4 k s mo 5), (5, r5), (6, ⟨roC r3 list sum x y h, false, .cells true⟩)])
  | _, _ => none)
noncomputable def siB : Row → Int → Nat → Int → Int → Bool := sealV fun r i w sz top => isOk (siR (dB r) i.toNat w sz top).e
noncomputable def siE : Row → Int → Nat → Int → Int → Int := sealV fun r i w sz top => ((siR (dB r) i.toNat w sz top).e : Nat)
noncomputable def siA : Row → Int → Nat → Int → Int → Int := sealV fun r i w sz top => ((siR (dB r) i.toNat w sz top).p : Nat)
noncomputable def siW : Row → Int → Nat → Int → Int → Int := sealV fun r i w sz top => siZ (dB r) i.toNat w sz top
noncomputable def siN : Row → Nat → Int → Row → Int → Nat → Int → Int → Nat := sealV fun q k mo r i w sz top => (siT (dB r) i.toNat w sz top (rowT q k mo)).l.length
noncomputable def siS : Row → Nat → Int → Row → Int → Nat → Int → Int → Int := sealV fun q k mo r i w sz top => ((smN (siT (dB r) i.toNat w sz top (rowT q k mo)).l : Nat) : Int)
noncomputable def siM : Row → Nat → Int → Row → Int → Nat → Int → Int → Int := sealV fun q k mo r i w sz top => (siT (dB r) i.toNat w sz top (rowT q k mo)).most
noncomputable def siC : Row → Nat → Int → Row → Int → Nat → Int → Int → List Value := sealV fun q k mo r i w sz top => gC enF ((siT (dB r) i.toNat w sz top (rowT q k mo)).l ++ (siT (dB r) i.toNat w sz top (rowT q k mo)).j)
def IsTs (r : Row) (k : Nat) (s m : Int) : Prop := ∃ l j : List Fl, r = gOwn enF (l ++ j) ∧ k = l.length ∧ s = (smN l : Nat) ∧ Ok ⟨l, j, m⟩
def SzP (sz top : Int) : Prop := 0 ≤ sz ∧ sz ≤ 100 ∧ top ≤ 65536
noncomputable def eSi : EntM := (36, fun a r => match a, r with
  | [.pointer (some ⟨0, 0, none⟩)], [⟨[.pointer (some ⟨1, 0, none⟩), .slice (some ⟨2, 0, none⟩) m 1, .int .i64 i, .slice (some ⟨3, 0, none⟩) w 3, .int .i64 sum, .int .i64 sz], false, .cells false⟩, ⟨[.pointer (some ⟨4, 0, none⟩), .int .i64 top, .int .i64 list, .bool bad], false, .cells false⟩, r2, r3, ⟨[.slice (some ⟨5, 0, none⟩) k 2, .int .i64 s, .int .i64 mo], false, .cells false⟩, r5] =>
    some ((IsAt r2 m i ∧ IsWs r3 w) ∧ IsTs r5 k s mo ∧ SzP sz top, mkE (siB r2 i w sz top) (.tuple ⟨[]⟩) (siE r2 i w sz top) (siA r2 i w sz top), 7, [(0, rd0 m (siA r2 i w sz top) w sum (siW r2 i w sz top) 3), (1, rd1 top list bad 4), (2, r2), (3, r3), (4, rd4 (siN r5 k mo r2 i w sz top) (siS r5 k mo r2 i w sz top) (siM r5 k mo r2 i w sz top) 6), (6, ⟨siC r5 k mo r2 i w sz top, false, .cells true⟩)])
  | _, _ => none)
theorem decW_gC (l : List Wr) : decW (gC enW l) = l := by
  induction l with
  | nil => rfl
  | cons w l ih => rw [gC_cons]; exact congrArg _ ih
theorem eLi_ok : EntOk Try.prog eLi := by
  intro a rows p v n' rl he hp
  simp only [eLi] at he
  split at he
  · simp only [Option.some.injEq, Prod.mk.injEq] at he
    obtain ⟨rfl, rfl, rfl, rfl⟩ := he
    rename_i n m i w sum sz top list bad r2 r3 k s mo r5
    obtain ⟨⟨⟨b, rfl, rfl, hb, hi, hl⟩, h1, h8⟩, ⟨W, rfl, rfl⟩, ⟨l, j, rfl, rfl, hL⟩⟩ := hp
    have := Li_con b i.toNat n.toNat W sum sz top list bad s mo l j hb (by omega) (by unfold IsN; omega) hL
    unfold liB liX liY liE liA
    rw [sealV_eq, sealV_eq, sealV_eq, sealV_eq, sealV_eq, dB_ro]
    have er : rowF (gOwn enF (l ++ j)) l.length = l := by unfold rowF; rw [show decF (gOwn enF (l ++ j)).cells = l ++ j from decF_gC _, List.take_left]
    rw [show ((i.toNat : Nat) : Int) = i by omega, show ((n.toNat : Nat) : Int) = n by omega] at this
    rw [er]
    exact this
  · simp at he
theorem eRo_ok : EntOk Try.prog eRo := by
  intro a rows p v n' rl he hp
  simp only [eRo] at he
  split at he
  · simp only [Option.some.injEq, Prod.mk.injEq] at he
    obtain ⟨rfl, rfl, rfl, rfl⟩ := he
    rename_i x y h m i w sum sz top list bad r2 r3 k s mo r5
    obtain ⟨⟨⟨b, rfl, rfl⟩, ⟨W, rfl, rfl, hW⟩⟩, ⟨F, rfl⟩, h1, h2, h3⟩ := hp
    have := Ro_con b i W sum sz top list bad k s mo F ⟨L x, L y⟩ h hW h1 h2 (by omega)
    unfold roB roN roZ roC
    rw [sealV_eq, sealV_eq, sealV_eq, sealV_eq]
    rw [show decW (gOwn enW W).cells = W from decW_gC W]
    exact this
  · simp at he
theorem eSi_ok : EntOk Try.prog eSi := by
  intro a rows p v n' rl he hp
  simp only [eSi] at he
  split at he
  · simp only [Option.some.injEq, Prod.mk.injEq] at he
    obtain ⟨rfl, rfl, rfl, rfl⟩ := he
    rename_i m i w sum sz top list bad r2 r3 k s mo r5
    obtain ⟨⟨⟨b, rfl, rfl, hb, hi, hl⟩, ⟨W, rfl, rfl⟩⟩, ⟨l, j, rfl, rfl, rfl, ho⟩, h1, h2, h3⟩ := hp
    have := Si_con b i.toNat W sum sz top list bad ⟨l, j, mo⟩ hb (by omega) h3 ho h1 h2
    unfold siB siE siA siW siN siS siM siC
    rw [sealV_eq, sealV_eq, sealV_eq, sealV_eq, sealV_eq, sealV_eq, sealV_eq, sealV_eq, dB_ro, row_T]
    rw [show ((i.toNat : Nat) : Int) = i by omega] at this
    exact this
  · simp at he
end Go.Proofs.Ytellbmbklfbbfaa.up
