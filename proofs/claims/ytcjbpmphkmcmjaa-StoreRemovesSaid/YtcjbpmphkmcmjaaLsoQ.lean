/- The store's calls, known to the laws: Put, Get, Peek, Keys. -/
import Derived.Test.YtcjbpmphkmcmjaaSz9
import Derived.Test.YtcjbpmphkmcmjaaRows
import Derived.Test.YtcjbpmphkmcmjaaLsoP
set_option maxRecDepth 20000
set_option linter.unusedSimpArgs false
set_option linter.unusedVariables false
namespace Go.Proofs.Ytcjbpmphkmcmjaa.so
open Go Go.Ev Go.Sy Go.RowKit Go.Proofs.Ytcjbpmphkmcmjaa.gl Go.Proofs.Ytcjbpmphkmcmjaa.tk Go.Proofs.Ytcjbpmphkmcmjaa.cp Go.Proofs.Ytcjbpmphkmcmjaa.ic
noncomputable def ptSiz : Int → Int → Int → Int → Nat → Row → Row → Row → ByteArray → ByteArray → ByteArray → ByteArray → Row → Int → Int → Row → Int → ByteArray → Int → Int → Int := sealV fun bud siz nw ol fn r1 r2 r3 m s a p e1 k st e2 k2 body t1 t2 => (puS (sOf bud siz nw ol fn r1 r2 r3) ⟨⟨m, s, a, p, k, st, k2, body, t1, t2⟩, decF e1.cells, decF e2.cells⟩).siz
noncomputable def ptNw : Int → Int → Int → Int → Nat → Row → Row → Row → ByteArray → ByteArray → ByteArray → ByteArray → Row → Int → Int → Row → Int → ByteArray → Int → Int → Int := sealV fun bud siz nw ol fn r1 r2 r3 m s a p e1 k st e2 k2 body t1 t2 => (puS (sOf bud siz nw ol fn r1 r2 r3) ⟨⟨m, s, a, p, k, st, k2, body, t1, t2⟩, decF e1.cells, decF e2.cells⟩).nw
noncomputable def ptOl : Int → Int → Int → Int → Nat → Row → Row → Row → ByteArray → ByteArray → ByteArray → ByteArray → Row → Int → Int → Row → Int → ByteArray → Int → Int → Int := sealV fun bud siz nw ol fn r1 r2 r3 m s a p e1 k st e2 k2 body t1 t2 => (puS (sOf bud siz nw ol fn r1 r2 r3) ⟨⟨m, s, a, p, k, st, k2, body, t1, t2⟩, decF e1.cells, decF e2.cells⟩).ol
noncomputable def ptFn : Int → Int → Int → Int → Nat → Row → Row → Row → ByteArray → ByteArray → ByteArray → ByteArray → Row → Int → Int → Row → Int → ByteArray → Int → Int → Nat := sealV fun bud siz nw ol fn r1 r2 r3 m s a p e1 k st e2 k2 body t1 t2 => (puS (sOf bud siz nw ol fn r1 r2 r3) ⟨⟨m, s, a, p, k, st, k2, body, t1, t2⟩, decF e1.cells, decF e2.cells⟩).fn
noncomputable def ptLn : Int → Int → Int → Int → Nat → Row → Row → Row → ByteArray → ByteArray → ByteArray → ByteArray → Row → Int → Int → Row → Int → ByteArray → Int → Int → Nat := sealV fun bud siz nw ol fn r1 r2 r3 m s a p e1 k st e2 k2 body t1 t2 => (puS (sOf bud siz nw ol fn r1 r2 r3) ⟨⟨m, s, a, p, k, st, k2, body, t1, t2⟩, decF e1.cells, decF e2.cells⟩).nd.length
noncomputable def ptNd : Int → Int → Int → Int → Nat → Row → Row → Row → ByteArray → ByteArray → ByteArray → ByteArray → Row → Int → Int → Row → Int → ByteArray → Int → Int → List Value := sealV fun bud siz nw ol fn r1 r2 r3 m s a p e1 k st e2 k2 body t1 t2 => gC ndC (puS (sOf bud siz nw ol fn r1 r2 r3) ⟨⟨m, s, a, p, k, st, k2, body, t1, t2⟩, decF e1.cells, decF e2.cells⟩).nd
noncomputable def ptFr : Int → Int → Int → Int → Nat → Row → Row → Row → ByteArray → ByteArray → ByteArray → ByteArray → Row → Int → Int → Row → Int → ByteArray → Int → Int → List Value := sealV fun bud siz nw ol fn r1 r2 r3 m s a p e1 k st e2 k2 body t1 t2 => iCells .i64 (puS (sOf bud siz nw ol fn r1 r2 r3) ⟨⟨m, s, a, p, k, st, k2, body, t1, t2⟩, decF e1.cells, decF e2.cells⟩).fr
noncomputable def ptMc : Int → Int → Int → Int → Nat → Row → Row → Row → ByteArray → ByteArray → ByteArray → ByteArray → Row → Int → Int → Row → Int → ByteArray → Int → Int → List Value := sealV fun bud siz nw ol fn r1 r2 r3 m s a p e1 k st e2 k2 body t1 t2 => mC (puS (sOf bud siz nw ol fn r1 r2 r3) ⟨⟨m, s, a, p, k, st, k2, body, t1, t2⟩, decF e1.cells, decF e2.cells⟩).m
noncomputable def ptB0 : Int → Int → Int → Int → Nat → Row → Row → Row → ByteArray → ByteArray → ByteArray → ByteArray → Row → Int → Int → Row → Int → ByteArray → Int → Int → Bool := sealV fun bud siz nw ol fn r1 r2 r3 m s a p e1 k st e2 k2 body t1 t2 => puB (sOf bud siz nw ol fn r1 r2 r3) ⟨⟨m, s, a, p, k, st, k2, body, t1, t2⟩, decF e1.cells, decF e2.cells⟩
open Classical in
noncomputable def ordOf (s : SS) : List Nat := if h : ∃ ord, SInv s ord ∧ Sz s ord then Classical.choose h else []
noncomputable def kyR : Int → Int → Int → Int → Nat → Row → Row → Row → List (List UInt8) := fun bud siz nw ol fn r1 r2 r3 => kyL (sOf bud siz nw ol fn r1 r2 r3) (ordOf (sOf bud siz nw ol fn r1 r2 r3))
noncomputable def kyN : Int → Int → Int → Int → Nat → Row → Row → Row → Nat := sealV fun bud siz nw ol fn r1 r2 r3 => (kyR bud siz nw ol fn r1 r2 r3).length
noncomputable def kyC : Int → Int → Int → Int → Nat → Row → Row → Row → List Value := sealV fun bud siz nw ol fn r1 r2 r3 => gC enS (kyR bud siz nw ol fn r1 r2 r3)
noncomputable def ePt : EntM := (10, fun a r => match a, r with
  | [.pointer (some ⟨0, 0, none⟩), .agg ⟨[.string m, .string s, .string a, .string p, .slice (some ⟨1, 0, none⟩) n1 2, .int .i64 k, .int .i64 st, .slice (some ⟨2, 0, none⟩) n2 2, .int .i64 k2, .string body, .int .i64 t1, .int .i64 t2]⟩], [⟨[.int .i64 bud, .int .i64 siz, .slice (some ⟨3, 0, none⟩) n 16, .slice (some ⟨4, 0, none⟩) fn 1, .int .i64 nw, .int .i64 ol, .map (some 5)], false, .cells false⟩, e1, e2, r1, r2, r3] =>
    some (TOk s ∧ TOk a ∧ TOk p ∧ TOk body ∧ IsF e1 n1 ∧ IsF e2 n2 ∧ FVR e1 ∧ FVR e2 ∧ bud ≤ 1099511627776 ∧ PDr bud siz nw ol fn n r1 r2 r3, .bool (ptB0 bud siz nw ol fn r1 r2 r3 m s a p e1 k st e2 k2 body t1 t2), 8, [(0, ⟨[.int .i64 bud, .int .i64 (ptSiz bud siz nw ol fn r1 r2 r3 m s a p e1 k st e2 k2 body t1 t2), .slice (some ⟨6, 0, none⟩) (ptLn bud siz nw ol fn r1 r2 r3 m s a p e1 k st e2 k2 body t1 t2) 16, .slice (some ⟨7, 0, none⟩) (ptFn bud siz nw ol fn r1 r2 r3 m s a p e1 k st e2 k2 body t1 t2) 1, .int .i64 (ptNw bud siz nw ol fn r1 r2 r3 m s a p e1 k st e2 k2 body t1 t2), .int .i64 (ptOl bud siz nw ol fn r1 r2 r3 m s a p e1 k st e2 k2 body t1 t2), .map (some 5)], false, .cells false⟩), (6, ⟨ptNd bud siz nw ol fn r1 r2 r3 m s a p e1 k st e2 k2 body t1 t2, false, .cells true⟩), (7, ⟨ptFr bud siz nw ol fn r1 r2 r3 m s a p e1 k st e2 k2 body t1 t2, false, .cells true⟩), (5, ⟨ptMc bud siz nw ol fn r1 r2 r3 m s a p e1 k st e2 k2 body t1 t2, false, .map true⟩)])
  | _, _ => none)
noncomputable def eKs : EntM := (14, fun a r => match a, r with
  | [.pointer (some ⟨0, 0, none⟩)], [⟨[.int .i64 bud, .int .i64 siz, .slice (some ⟨1, 0, none⟩) n 16, .slice (some ⟨2, 0, none⟩) fn 1, .int .i64 nw, .int .i64 ol, .map (some 3)], false, .cells false⟩, r1, r2, r3] =>
    some (PDr bud siz nw ol fn n r1 r2 r3, .slice (some ⟨4, 0, none⟩) (kyN bud siz nw ol fn r1 r2 r3) 1, 5, [(0, ⟨[.int .i64 bud, .int .i64 siz, .slice (some ⟨1, 0, none⟩) n 16, .slice (some ⟨2, 0, none⟩) fn 1, .int .i64 nw, .int .i64 ol, .map (some 3)], false, .cells false⟩), (1, r1), (2, r2), (3, r3), (4, ⟨kyC bud siz nw ol fn r1 r2 r3, false, .cells true⟩)])
  | _, _ => none)
theorem pt_mk (s : SS) (x : EnX) (e r : List Fl) (b b2 : Bool) (o o2 : Ob) :
    ptSiz s.bud s.siz s.nw s.ol s.fn ⟨gC ndC s.nd, false, .cells true⟩ ⟨iCells .i64 s.fr, false, .cells true⟩ ⟨mC s.m, false, .map true⟩ x.m x.s x.a x.p ⟨gC enF e, b, o⟩ x.k x.st ⟨gC enF r, b2, o2⟩ x.k2 x.body x.asked x.came = (puS s ⟨x, e, r⟩).siz ∧
    ptNw s.bud s.siz s.nw s.ol s.fn ⟨gC ndC s.nd, false, .cells true⟩ ⟨iCells .i64 s.fr, false, .cells true⟩ ⟨mC s.m, false, .map true⟩ x.m x.s x.a x.p ⟨gC enF e, b, o⟩ x.k x.st ⟨gC enF r, b2, o2⟩ x.k2 x.body x.asked x.came = (puS s ⟨x, e, r⟩).nw ∧
    ptOl s.bud s.siz s.nw s.ol s.fn ⟨gC ndC s.nd, false, .cells true⟩ ⟨iCells .i64 s.fr, false, .cells true⟩ ⟨mC s.m, false, .map true⟩ x.m x.s x.a x.p ⟨gC enF e, b, o⟩ x.k x.st ⟨gC enF r, b2, o2⟩ x.k2 x.body x.asked x.came = (puS s ⟨x, e, r⟩).ol ∧
    ptFn s.bud s.siz s.nw s.ol s.fn ⟨gC ndC s.nd, false, .cells true⟩ ⟨iCells .i64 s.fr, false, .cells true⟩ ⟨mC s.m, false, .map true⟩ x.m x.s x.a x.p ⟨gC enF e, b, o⟩ x.k x.st ⟨gC enF r, b2, o2⟩ x.k2 x.body x.asked x.came = (puS s ⟨x, e, r⟩).fn ∧
    ptLn s.bud s.siz s.nw s.ol s.fn ⟨gC ndC s.nd, false, .cells true⟩ ⟨iCells .i64 s.fr, false, .cells true⟩ ⟨mC s.m, false, .map true⟩ x.m x.s x.a x.p ⟨gC enF e, b, o⟩ x.k x.st ⟨gC enF r, b2, o2⟩ x.k2 x.body x.asked x.came = (puS s ⟨x, e, r⟩).nd.length ∧
    ptNd s.bud s.siz s.nw s.ol s.fn ⟨gC ndC s.nd, false, .cells true⟩ ⟨iCells .i64 s.fr, false, .cells true⟩ ⟨mC s.m, false, .map true⟩ x.m x.s x.a x.p ⟨gC enF e, b, o⟩ x.k x.st ⟨gC enF r, b2, o2⟩ x.k2 x.body x.asked x.came = gC ndC (puS s ⟨x, e, r⟩).nd ∧
    ptFr s.bud s.siz s.nw s.ol s.fn ⟨gC ndC s.nd, false, .cells true⟩ ⟨iCells .i64 s.fr, false, .cells true⟩ ⟨mC s.m, false, .map true⟩ x.m x.s x.a x.p ⟨gC enF e, b, o⟩ x.k x.st ⟨gC enF r, b2, o2⟩ x.k2 x.body x.asked x.came = iCells .i64 (puS s ⟨x, e, r⟩).fr ∧
    ptMc s.bud s.siz s.nw s.ol s.fn ⟨gC ndC s.nd, false, .cells true⟩ ⟨iCells .i64 s.fr, false, .cells true⟩ ⟨mC s.m, false, .map true⟩ x.m x.s x.a x.p ⟨gC enF e, b, o⟩ x.k x.st ⟨gC enF r, b2, o2⟩ x.k2 x.body x.asked x.came = mC (puS s ⟨x, e, r⟩).m ∧
    ptB0 s.bud s.siz s.nw s.ol s.fn ⟨gC ndC s.nd, false, .cells true⟩ ⟨iCells .i64 s.fr, false, .cells true⟩ ⟨mC s.m, false, .map true⟩ x.m x.s x.a x.p ⟨gC enF e, b, o⟩ x.k x.st ⟨gC enF r, b2, o2⟩ x.k2 x.body x.asked x.came = puB s ⟨x, e, r⟩ := by
  unfold ptSiz ptNw ptOl ptFn ptLn ptNd ptFr ptMc ptB0
  simp only [sealV_eq, sOf_mk, dMp_mk, decF_gC, and_self]
theorem ord_one {s : SS} {o1 o2 : List Nat} (h1 : SInv s o1) (h2 : SInv s o2) : o1 = o2 := by
  have key : ∀ (l1 l2 : List Nat) (p : Int), DL (gN s.nd) p l1 (-1) → DL (gN s.nd) p l2 (-1) → hdQ l1 (-1) = hdQ l2 (-1) → l1 = l2 := by
    intro l1
    induction l1 with
    | nil =>
      intro l2 p _ _ e
      cases l2 with
      | nil => rfl
      | cons b l2 => have e : (-1 : Int) = (b : Int) := e; omega
    | cons a l1 ih =>
      intro l2 p d1 d2 e
      cases l2 with
      | nil => have e : (a : Int) = -1 := e; omega
      | cons b l2 =>
        have e : (a : Int) = (b : Int) := e
        have e : a = b := by omega
        subst e
        rw [ih l2 (a : Int) d1.2.2 d2.2.2 (d1.2.1.symm.trans d2.2.1)]
  exact key o1 o2 _ h1.dl h2.dl (h1.nw.symm.trans h2.nw)
theorem ord_mk {s : SS} {ord : List Nat} (h : SInv s ord) (hz : Sz s ord) : ordOf s = ord := by
  have hx : ∃ ord, SInv s ord ∧ Sz s ord := ⟨ord, h, hz⟩
  unfold ordOf; rw [dif_pos hx]
  exact ord_one (Classical.choose_spec hx).1 h
theorem ky_mk {s : SS} {ord : List Nat} (h : SInv s ord) (hz : Sz s ord) : kyN s.bud s.siz s.nw s.ol s.fn ⟨gC ndC s.nd, false, .cells true⟩ ⟨iCells .i64 s.fr, false, .cells true⟩ ⟨mC s.m, false, .map true⟩ = (kyL s ord).length ∧ kyC s.bud s.siz s.nw s.ol s.fn ⟨gC ndC s.nd, false, .cells true⟩ ⟨iCells .i64 s.fr, false, .cells true⟩ ⟨mC s.m, false, .map true⟩ = gC enS (kyL s ord) := by
  unfold kyN kyC kyR
  simp only [sealV_eq, sOf_mk, ord_mk h hz, and_self]
theorem pu_len (s : SS) (a : En) : (puS s a).bud = s.bud := by
  obtain ⟨hl1, hl2⟩ := drS_len (prM a.e) (mget s.m (keyE a)) s
  unfold puS; split
  · exact hl2
  · show (trS _ _ _).bud = _
    rw [(trS_bud _ _ _).1, hl2]
theorem ePt_ok : EntOk Try.prog ePt := by
  intro a rows qq v n' rl h hp
  unfold ePt at h
  simp only at h
  split at h
  · rename_i m s a p n1 k st n2 k2 body t1 t2 bud siz n fn nw ol e1 e2 r1 r2 r3
    simp only [Option.some.injEq, Prod.mk.injEq] at h
    obtain ⟨rfl, rfl, rfl, rfl⟩ := h
    obtain ⟨u1, u2, u3, u4, ⟨l, rfl, rfl⟩, ⟨l2, rfl, rfl⟩, hq, hq2, hb, S, ord, ⟨rfl, rfl, rfl, rfl, rfl, rfl, rfl, rfl, rfl⟩, h1, h2⟩ := hp
    unfold gRo at hq hq2
    rw [fvR] at hq hq2
    have hc := Pu_con S ord h1 h2 ⟨⟨m, s, a, p, k, st, k2, body, t1, t2⟩, l, l2⟩ ⟨u1, u2, u3, u4, hq, hq2⟩ hb
    unfold rwPu ssR ssC enCells at hc
    obtain ⟨m1, m2, m3, m4, m5, m6, m7, m8, m9⟩ := pt_mk S ⟨m, s, a, p, k, st, k2, body, t1, t2⟩ l l2 true true (.cells true) (.cells true)
    rw [pu_len] at hc
    unfold gOwn iOwn mpR gRo at hc ⊢
    simp only at m1 m2 m3 m4 m5 m6 m7 m8 m9
    rw [m1, m2, m3, m4, m5, m6, m7, m8, m9]
    exact hc
  · simp at h
theorem eKs_ok : EntOk Try.prog eKs := by
  intro a rows qq v n' rl h hp
  unfold eKs at h
  simp only at h
  split at h
  · rename_i bud siz n fn nw ol r1 r2 r3
    simp only [Option.some.injEq, Prod.mk.injEq] at h
    obtain ⟨rfl, rfl, rfl, rfl⟩ := h
    obtain ⟨S, ord, ⟨rfl, rfl, rfl, rfl, rfl, rfl, rfl, rfl, rfl⟩, h1, h2⟩ := hp
    have hc := Ky_con S ord h1 h2
    obtain ⟨m1, m2⟩ := ky_mk h1 h2
    unfold rwS ssR ssC at hc
    unfold gOwn iOwn mpR at hc ⊢
    rw [m1, m2]
    exact hc
  · simp at h
end Go.Proofs.Ytcjbpmphkmcmjaa.so
