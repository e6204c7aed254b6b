/- The store's inner calls as known calls. -/
import Derived.Test.YtcjbpmphkmcmjaaSz9
import Derived.Test.YtcjbpmphkmcmjaaRows
import Derived.Test.YtcjbpmphkmcmjaaLsoG
import Derived.Test.YtcjbpmphkmcmjaaLsoN
set_option maxRecDepth 20000
set_option linter.unusedSimpArgs false
set_option linter.unusedVariables false
namespace Go.Proofs.Ytcjbpmphkmcmjaa.so
open Go Go.Ev Go.Sy Go.RowKit Go.Proofs.Ytcjbpmphkmcmjaa.gl Go.Proofs.Ytcjbpmphkmcmjaa.tk Go.Proofs.Ytcjbpmphkmcmjaa.cp Go.Proofs.Ytcjbpmphkmcmjaa.ic
open Classical in
noncomputable def dNd : Row → List Nd := fun r => if h : ∃ l, r.cells = gC ndC l then Classical.choose h else []
open Classical in
noncomputable def dMp : Row → Mp := fun r => if h : ∃ m, r.cells = mC m then Classical.choose h else []
noncomputable def sOf (bud siz nw ol : Int) (fn : Nat) (r1 r2 r3 : Row) : SS := ⟨bud, siz, dNd r1, dI r2, fn, nw, ol, dMp r3⟩
def HasS (s : SS) (bud siz nw ol : Int) (fn n : Nat) (r1 r2 r3 : Row) : Prop := bud = s.bud ∧ siz = s.siz ∧ nw = s.nw ∧ ol = s.ol ∧ fn = s.fn ∧ n = s.nd.length ∧ r1 = gOwn ndC s.nd ∧ r2 = iOwn .i64 s.fr ∧ r3 = mpR s.m
def PreRm (s : SS) (i : Int) : Prop := (0 ≤ i ∧ i < (s.nd.length : Int)) ∧ s.nd.length ≤ 1000000 ∧ ndLk s.nd (gN s.nd i.toNat).nw ∧ ndLk s.nd (gN s.nd i.toNat).ol ∧ (mget s.m (gN s.nd i.toNat).key).length ≤ 1000000 ∧ (s.fn ≤ s.fr.length ∧ s.fn ≤ 1000000) ∧ I64 (s.siz - (gN s.nd i.toNat).cost)
def PRm (bud siz nw ol : Int) (fn n : Nat) (r1 r2 r3 : Row) (i : Int) : Prop := ∃ s, HasS s bud siz nw ol fn n r1 r2 r3 ∧ PreRm s i
noncomputable def rmSiz : Int → Int → Int → Int → Nat → Row → Row → Row → Int → Int := sealV fun bud siz nw ol fn r1 r2 r3 i => (rmS (sOf bud siz nw ol fn r1 r2 r3) i.toNat).siz
noncomputable def rmNw : Int → Int → Int → Int → Nat → Row → Row → Row → Int → Int := sealV fun bud siz nw ol fn r1 r2 r3 i => (rmS (sOf bud siz nw ol fn r1 r2 r3) i.toNat).nw
noncomputable def rmOl : Int → Int → Int → Int → Nat → Row → Row → Row → Int → Int := sealV fun bud siz nw ol fn r1 r2 r3 i => (rmS (sOf bud siz nw ol fn r1 r2 r3) i.toNat).ol
noncomputable def rmNd : Int → Int → Int → Int → Nat → Row → Row → Row → Int → List Value := sealV fun bud siz nw ol fn r1 r2 r3 i => gC ndC (rmS (sOf bud siz nw ol fn r1 r2 r3) i.toNat).nd
noncomputable def rmFr : Int → Int → Int → Int → Nat → Row → Row → Row → Int → List Value := sealV fun bud siz nw ol fn r1 r2 r3 i => iCells .i64 (rmS (sOf bud siz nw ol fn r1 r2 r3) i.toNat).fr
noncomputable def rmMc : Int → Int → Int → Int → Nat → Row → Row → Row → Int → List Value := sealV fun bud siz nw ol fn r1 r2 r3 i => mC (rmS (sOf bud siz nw ol fn r1 r2 r3) i.toNat).m
noncomputable def eRm : EntM := (35, fun a r => match a, r with
  | [.pointer (some ⟨0, 0, none⟩), .int .i64 i], [⟨[.int .i64 bud, .int .i64 siz, .slice (some ⟨1, 0, none⟩) n 16, .slice (some ⟨2, 0, none⟩) fn 1, .int .i64 nw, .int .i64 ol, .map (some 3)], false, .cells false⟩, r1, r2, r3] =>
    some (PRm bud siz nw ol fn n r1 r2 r3 i, .tuple #[], 5, [(0, ⟨[.int .i64 bud, .int .i64 (rmSiz bud siz nw ol fn r1 r2 r3 i), .slice (some ⟨1, 0, none⟩) n 16, .slice (some ⟨4, 0, none⟩) (fn + 1) 1, .int .i64 (rmNw bud siz nw ol fn r1 r2 r3 i), .int .i64 (rmOl bud siz nw ol fn r1 r2 r3 i), .map (some 3)], false, .cells false⟩), (1, ⟨rmNd bud siz nw ol fn r1 r2 r3 i, false, .cells true⟩), (4, ⟨rmFr bud siz nw ol fn r1 r2 r3 i, false, .cells true⟩), (3, ⟨rmMc bud siz nw ol fn r1 r2 r3 i, false, .map true⟩)])
  | _, _ => none)
noncomputable def adSiz : Int → Int → Int → Int → Nat → Row → Row → Row → ByteArray → ByteArray → ByteArray → ByteArray → List Fl → Int → Int → List Fl → Int → ByteArray → Int → Int → ByteArray → Int → Int := sealV fun bud siz nw ol fn r1 r2 r3 m s a p e k st r k2 body asked came key cost => (adS (sOf bud siz nw ol fn r1 r2 r3) ⟨⟨m, s, a, p, k, st, k2, body, asked, came⟩, e, r, key, cost, 0, 0⟩).siz
noncomputable def adNw : Int → Int → Int → Int → Nat → Row → Row → Row → ByteArray → ByteArray → ByteArray → ByteArray → List Fl → Int → Int → List Fl → Int → ByteArray → Int → Int → ByteArray → Int → Int := sealV fun bud siz nw ol fn r1 r2 r3 m s a p e k st r k2 body asked came key cost => (adS (sOf bud siz nw ol fn r1 r2 r3) ⟨⟨m, s, a, p, k, st, k2, body, asked, came⟩, e, r, key, cost, 0, 0⟩).nw
noncomputable def adOl : Int → Int → Int → Int → Nat → Row → Row → Row → ByteArray → ByteArray → ByteArray → ByteArray → List Fl → Int → Int → List Fl → Int → ByteArray → Int → Int → ByteArray → Int → Int := sealV fun bud siz nw ol fn r1 r2 r3 m s a p e k st r k2 body asked came key cost => (adS (sOf bud siz nw ol fn r1 r2 r3) ⟨⟨m, s, a, p, k, st, k2, body, asked, came⟩, e, r, key, cost, 0, 0⟩).ol
noncomputable def adNc : Int → Int → Int → Int → Nat → Row → Row → Row → ByteArray → ByteArray → ByteArray → ByteArray → List Fl → Int → Int → List Fl → Int → ByteArray → Int → Int → ByteArray → Int → List Value := sealV fun bud siz nw ol fn r1 r2 r3 m s a p e k st r k2 body asked came key cost => gC ndC (adS (sOf bud siz nw ol fn r1 r2 r3) ⟨⟨m, s, a, p, k, st, k2, body, asked, came⟩, e, r, key, cost, 0, 0⟩).nd
noncomputable def adMc : Int → Int → Int → Int → Nat → Row → Row → Row → ByteArray → ByteArray → ByteArray → ByteArray → List Fl → Int → Int → List Fl → Int → ByteArray → Int → Int → ByteArray → Int → List Value := sealV fun bud siz nw ol fn r1 r2 r3 m s a p e k st r k2 body asked came key cost => mC (adS (sOf bud siz nw ol fn r1 r2 r3) ⟨⟨m, s, a, p, k, st, k2, body, asked, came⟩, e, r, key, cost, 0, 0⟩).m
noncomputable def adLn : Nat → Nat → Nat := sealV fun fn n => if fn = 0 then n + 1 else n
def PreAd (s : SS) (n : Nd) : Prop := preP ⟨s, s.nd.length, n⟩ ∧ ndLk s.nd s.nw ∧ (mget s.m n.key).length ≤ 1000000 ∧ I64 (s.siz + n.cost)
def PAd (bud siz nw ol : Int) (fn n : Nat) (r1 r2 r3 : Row) (key : ByteArray) (cost : Int) : Prop := ∃ s, HasS s bud siz nw ol fn n r1 r2 r3 ∧ ∀ x e r w o, PreAd s ⟨x, e, r, key, cost, w, o⟩
def IsFo (r : Row) (n : Nat) : Prop := ∃ l : List Fl, r = gOwn enF l ∧ n = l.length
noncomputable def eAo : EntM := (36, fun a r => match a, r with
  | [.pointer (some ⟨0, 0, none⟩), .agg ⟨[.string m, .string s, .string a, .string p, .slice (some ⟨1, 0, none⟩) n1 2, .int .i64 k, .int .i64 st, .slice (some ⟨2, 0, none⟩) n2 2, .int .i64 k2, .string body, .int .i64 asked, .int .i64 came, .string key, .int .i64 cost, .int .i64 w0, .int .i64 o0]⟩], [⟨[.int .i64 bud, .int .i64 siz, .slice (some ⟨3, 0, none⟩) n 16, .slice (some ⟨4, 0, none⟩) fn 1, .int .i64 nw, .int .i64 ol, .map (some 5)], false, .cells false⟩, ⟨c1, false, .cells true⟩, ⟨c2, false, .cells true⟩, r1, r2, r3] =>
    some (IsFo ⟨c1, false, .cells true⟩ n1 ∧ IsFo ⟨c2, false, .cells true⟩ n2 ∧ PAd bud siz nw ol fn n r1 r2 r3 key cost, .tuple #[], 7, [(0, ⟨[.int .i64 bud, .int .i64 (adSiz bud siz nw ol fn r1 r2 r3 m s a p (decF c1) k st (decF c2) k2 body asked came key cost), .slice (some ⟨6, 0, none⟩) (adLn fn n) 16, .slice (some ⟨4, 0, none⟩) (fn - 1) 1, .int .i64 (adNw bud siz nw ol fn r1 r2 r3 m s a p (decF c1) k st (decF c2) k2 body asked came key cost), .int .i64 (adOl bud siz nw ol fn r1 r2 r3 m s a p (decF c1) k st (decF c2) k2 body asked came key cost), .map (some 5)], false, .cells false⟩), (6, ⟨adNc bud siz nw ol fn r1 r2 r3 m s a p (decF c1) k st (decF c2) k2 body asked came key cost, false, .cells true⟩), (4, r2), (5, ⟨adMc bud siz nw ol fn r1 r2 r3 m s a p (decF c1) k st (decF c2) k2 body asked came key cost, false, .map true⟩)])
  | _, _ => none)
theorem gCode_injF {a b : List Fl} (h : gCode (gC enF a) = gCode (gC enF b)) : a = b := by
  have h2 := congrArg gCells h
  rw [gF, gF] at h2
  have h3 := congrArg decF h2
  rw [decF_gC, decF_gC] at h3; exact h3
theorem gCode_injI {a b : List Int} (h : gCode (iCells .i64 a) = gCode (iCells .i64 b)) : a = b := by
  have h2 := congrArg gCells h
  rw [gIc, gIc] at h2
  have h3 := congrArg (fun l => dI ⟨l, true, .cells true⟩) h2
  simp only [dI_mk] at h3; exact h3
theorem ndC_inj {a b : Nd} (h : ndC a = ndC b) : a = b := by
  obtain ⟨⟨a1, a2, a3, a4, a5, a6, a7, a8, a9, a10⟩, e, r, k, c, w, o⟩ := a
  obtain ⟨⟨b1, b2, b3, b4, b5, b6, b7, b8, b9, b10⟩, e', r', k', c', w', o'⟩ := b
  simp only [ndC, gsF, List.cons.injEq, Value.string.injEq, Value.int.injEq, Value.slice.injEq, Option.some.injEq, Addr.mk.injEq, true_and, and_true] at h
  obtain ⟨rfl, rfl, rfl, rfl, ⟨he, _⟩, rfl, rfl, ⟨hr, _⟩, rfl, rfl, rfl, rfl, rfl, rfl, rfl, rfl⟩ := h
  rw [gCode_injF he, gCode_injF hr]
theorem gNd_inj : ∀ {a b : List Nd}, gC ndC a = gC ndC b → a = b
  | [], [], _ => rfl
  | [], b :: l, h => by have := congrArg List.length h; rw [nLen, nLen] at this; simp at this
  | a :: l, [], h => by have := congrArg List.length h; rw [nLen, nLen] at this; simp at this
  | a :: l, b :: m, h => by
    rw [gC_cons, gC_cons] at h
    obtain ⟨h1, h2⟩ := List.append_inj h rfl
    rw [ndC_inj h1, gNd_inj h2]
theorem mC_inj : ∀ {a b : Mp}, mC a = mC b → a = b
  | [], [], _ => rfl
  | [], b :: l, h => by simp [mC_cons] at h; exact absurd h (by simp [mC, gC])
  | a :: l, [], h => by simp [mC_cons] at h; exact absurd h (by simp [mC, gC])
  | (k, a) :: l, (k', b) :: m, h => by
    rw [mC_cons, mC_cons] at h
    simp only [gsI, List.cons.injEq, Value.string.injEq, Value.slice.injEq, Option.some.injEq, Addr.mk.injEq, true_and, and_true] at h
    obtain ⟨rfl, ⟨h1, _⟩, h2⟩ := h
    rw [gCode_injI h1, mC_inj h2]
theorem dNd_mk (l : List Nd) (b : Bool) (o : Ob) : dNd ⟨gC ndC l, b, o⟩ = l := by
  unfold dNd
  have h : ∃ x, (⟨gC ndC l, b, o⟩ : Row).cells = gC ndC x := ⟨l, rfl⟩
  rw [dif_pos h]
  exact (gNd_inj (Classical.choose_spec h)).symm
theorem dMp_mk (m : Mp) (b : Bool) (o : Ob) : dMp ⟨mC m, b, o⟩ = m := by
  unfold dMp
  have h : ∃ x, (⟨mC m, b, o⟩ : Row).cells = mC x := ⟨m, rfl⟩
  rw [dif_pos h]
  exact (mC_inj (Classical.choose_spec h)).symm
theorem sOf_mk (s : SS) : sOf s.bud s.siz s.nw s.ol s.fn ⟨gC ndC s.nd, false, .cells true⟩ ⟨iCells .i64 s.fr, false, .cells true⟩ ⟨mC s.m, false, .map true⟩ = s := by
  unfold sOf; rw [dNd_mk, dI_mk, dMp_mk]
theorem rm_mk (s : SS) (i : Int) : rmSiz s.bud s.siz s.nw s.ol s.fn ⟨gC ndC s.nd, false, .cells true⟩ ⟨iCells .i64 s.fr, false, .cells true⟩ ⟨mC s.m, false, .map true⟩ i = (rmS s i.toNat).siz ∧
    rmNw s.bud s.siz s.nw s.ol s.fn ⟨gC ndC s.nd, false, .cells true⟩ ⟨iCells .i64 s.fr, false, .cells true⟩ ⟨mC s.m, false, .map true⟩ i = (rmS s i.toNat).nw ∧
    rmOl s.bud s.siz s.nw s.ol s.fn ⟨gC ndC s.nd, false, .cells true⟩ ⟨iCells .i64 s.fr, false, .cells true⟩ ⟨mC s.m, false, .map true⟩ i = (rmS s i.toNat).ol ∧
    rmNd s.bud s.siz s.nw s.ol s.fn ⟨gC ndC s.nd, false, .cells true⟩ ⟨iCells .i64 s.fr, false, .cells true⟩ ⟨mC s.m, false, .map true⟩ i = gC ndC (rmS s i.toNat).nd ∧
    rmFr s.bud s.siz s.nw s.ol s.fn ⟨gC ndC s.nd, false, .cells true⟩ ⟨iCells .i64 s.fr, false, .cells true⟩ ⟨mC s.m, false, .map true⟩ i = iCells .i64 (rmS s i.toNat).fr ∧
    rmMc s.bud s.siz s.nw s.ol s.fn ⟨gC ndC s.nd, false, .cells true⟩ ⟨iCells .i64 s.fr, false, .cells true⟩ ⟨mC s.m, false, .map true⟩ i = mC (rmS s i.toNat).m := by
  unfold rmSiz rmNw rmOl rmNd rmFr rmMc
  simp only [sealV_eq, sOf_mk, and_self]
theorem pRm_mk (s : SS) (i : Int) (h : PreRm s i) : PRm s.bud s.siz s.nw s.ol s.fn s.nd.length ⟨gC ndC s.nd, false, .cells true⟩ ⟨iCells .i64 s.fr, false, .cells true⟩ ⟨mC s.m, false, .map true⟩ i := ⟨s, ⟨rfl, rfl, rfl, rfl, rfl, rfl, rfl, rfl, rfl⟩, h⟩
theorem eRm_ok : EntOk Try.prog eRm := by
  intro a rows q v n' rl h hp
  unfold eRm at h
  simp only at h
  split at h
  · simp only [Option.some.injEq, Prod.mk.injEq] at h
    obtain ⟨rfl, rfl, rfl, rfl⟩ := h
    obtain ⟨s, ⟨rfl, rfl, rfl, rfl, rfl, rfl, rfl, rfl, rfl⟩, p1, p2, p3, p4, p5, p6, p7⟩ := hp
    have hc := Rm_con s _ p1 p2 p3 p4 p5 p6 p7
    unfold rwS2 ssR ssC at hc
    rw [show (rmS s _).nd.length = s.nd.length from rmN_len s _] at hc
    unfold gOwn iOwn mpR at hc ⊢
    obtain ⟨m1, m2, m3, m4, m5, m6⟩ := rm_mk s (by assumption)
    rw [m1, m2, m3, m4, m5, m6]
    exact hc
  · simp at h
theorem ad_mk (S : SS) (x : EnX) (e r : List Fl) (key : ByteArray) (cost : Int) : adSiz S.bud S.siz S.nw S.ol S.fn ⟨gC ndC S.nd, false, .cells true⟩ ⟨iCells .i64 S.fr, false, .cells true⟩ ⟨mC S.m, false, .map true⟩ x.m x.s x.a x.p e x.k x.st r x.k2 x.body x.asked x.came key cost = (adS S ⟨x, e, r, key, cost, 0, 0⟩).siz ∧ adNw S.bud S.siz S.nw S.ol S.fn ⟨gC ndC S.nd, false, .cells true⟩ ⟨iCells .i64 S.fr, false, .cells true⟩ ⟨mC S.m, false, .map true⟩ x.m x.s x.a x.p e x.k x.st r x.k2 x.body x.asked x.came key cost = (adS S ⟨x, e, r, key, cost, 0, 0⟩).nw ∧ adOl S.bud S.siz S.nw S.ol S.fn ⟨gC ndC S.nd, false, .cells true⟩ ⟨iCells .i64 S.fr, false, .cells true⟩ ⟨mC S.m, false, .map true⟩ x.m x.s x.a x.p e x.k x.st r x.k2 x.body x.asked x.came key cost = (adS S ⟨x, e, r, key, cost, 0, 0⟩).ol ∧ adNc S.bud S.siz S.nw S.ol S.fn ⟨gC ndC S.nd, false, .cells true⟩ ⟨iCells .i64 S.fr, false, .cells true⟩ ⟨mC S.m, false, .map true⟩ x.m x.s x.a x.p e x.k x.st r x.k2 x.body x.asked x.came key cost = gC ndC (adS S ⟨x, e, r, key, cost, 0, 0⟩).nd ∧ adMc S.bud S.siz S.nw S.ol S.fn ⟨gC ndC S.nd, false, .cells true⟩ ⟨iCells .i64 S.fr, false, .cells true⟩ ⟨mC S.m, false, .map true⟩ x.m x.s x.a x.p e x.k x.st r x.k2 x.body x.asked x.came key cost = mC (adS S ⟨x, e, r, key, cost, 0, 0⟩).m ∧ adLn S.fn S.nd.length = (adS S ⟨x, e, r, key, cost, 0, 0⟩).nd.length := by
  unfold adSiz adNw adOl adNc adMc adLn
  simp only [sealV_eq, sOf_mk, true_and]
  exact (adN_len S _).symm
theorem pAd_mk (S : SS) (key : ByteArray) (cost : Int) (h : ∀ x e r w o, PreAd S ⟨x, e, r, key, cost, w, o⟩) : PAd S.bud S.siz S.nw S.ol S.fn S.nd.length ⟨gC ndC S.nd, false, .cells true⟩ ⟨iCells .i64 S.fr, false, .cells true⟩ ⟨mC S.m, false, .map true⟩ key cost := ⟨S, ⟨rfl, rfl, rfl, rfl, rfl, rfl, rfl, rfl, rfl⟩, h⟩
theorem isFo_mk (l : List Fl) : IsFo ⟨gC enF l, false, .cells true⟩ l.length := ⟨l, rfl, rfl⟩
theorem eAo_ok : EntOk Try.prog eAo := by
  intro a rows q v n' rl h hp
  unfold eAo at h
  simp only at h
  split at h
  · rename_i m s a p n1 k st n2 k2 body asked came key cost w0 o0 bud siz n fn nw ol c1 c2 r1 r2 r3
    simp only [Option.some.injEq, Prod.mk.injEq] at h
    obtain ⟨rfl, rfl, rfl, rfl⟩ := h
    obtain ⟨⟨e, he, rfl⟩, ⟨r, hr, rfl⟩, S, ⟨rfl, rfl, rfl, rfl, rfl, rfl, rfl, rfl, rfl⟩, hp⟩ := hp
    have he : c1 = gC enF e := congrArg Row.cells he
    have hr : c2 = gC enF r := congrArg Row.cells hr
    subst he; subst hr
    obtain ⟨p1, p2, p3, p4⟩ := hp ⟨m, s, a, p, k, st, k2, body, asked, came⟩ e r w0 o0
    have hc := Ado_con S ⟨⟨m, s, a, p, k, st, k2, body, asked, came⟩, e, r, key, cost, w0, o0⟩ p1 p2 p3 p4
    unfold rwTo ssR ssC ndO at hc
    obtain ⟨m1, m2, m3, m4, m5, m6⟩ := ad_mk S ⟨m, s, a, p, k, st, k2, body, asked, came⟩ e r key cost
    unfold gOwn iOwn mpR at hc ⊢
    simp only [decF_gC]
    simp only at m1 m2 m3 m4 m5 m6
    rw [m1, m2, m3, m4, m5, m6]
    exact hc
  · simp at h
end Go.Proofs.Ytcjbpmphkmcmjaa.so
