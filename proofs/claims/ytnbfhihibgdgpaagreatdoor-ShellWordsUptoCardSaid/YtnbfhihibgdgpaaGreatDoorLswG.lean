/- An answer's line read back. -/
import Derived.Test.YtnbfhihibgdgpaaGreatDoorSz9
import Derived.Test.YtnbfhihibgdgpaaGreatDoorRows
import Derived.Test.YtnbfhihibgdgpaaGreatDoorLswF
set_option maxRecDepth 20000
set_option linter.unusedSimpArgs false
set_option linter.unusedVariables false
namespace Go.Proofs.YtnbfhihibgdgpaaGreatDoor.sw
open Go Go.Ev Go.Sy Go.RowKit Go.Proofs.YtnbfhihibgdgpaaGreatDoor.gl Go.Proofs.YtnbfhihibgdgpaaGreatDoor.tk Go.Proofs.YtnbfhihibgdgpaaGreatDoor.sl Go.Proofs.YtnbfhihibgdgpaaGreatDoor.cr Go.Proofs.YtnbfhihibgdgpaaGreatDoor.sn
noncomputable def dRw (x : List UInt8) : Rw := ⟨L (unZ (p3 1 (bs x))), L (unZ (p3 2 (bs x))), unI (p3 0 (bs x))⟩
noncomputable def pcA : Row → Int := sl.sealV fun r => unI (bs ((decS r.cells).getD 1 []))
noncomputable def pcC : Row → Int := sl.sealV fun r => unI (bs ((decS r.cells).getD 2 []))
noncomputable def pcL : Row → List Rw := sl.sealV fun r => ((decS r.cells).drop 5).map dRw
noncomputable def pcK : Row → Nat := sl.sealV fun r => (((decS r.cells).drop 5).map dRw).length
noncomputable def eSt : EntM := (21, fun a r => match a, r with
  | [.pointer (some ⟨0, 0, none⟩)], [⟨[.slice (some ⟨1, 0, none⟩) n 1, .int .i64 (.ofNat 0)], false, .cells false⟩, r1] => some (IsPc r1 n, .agg ⟨[.int .i64 6, .int .i64 (pcA r1), .int .i64 0, .int .i64 (pcC r1), .slice (some ⟨2, 0, none⟩) (pcK r1) 3, .string (pcT r1), .bool (pcE r1)]⟩, 3, [(0, ⟨[.slice (some ⟨1, 0, none⟩) n 1, .int .i64 (n : Nat)], false, .cells false⟩), (1, r1), (2, gOwn enR (pcL r1))])
  | _, _ => none)
noncomputable def tPa : List EntM := [eSt, eGs]
noncomputable abbrev EtPa : Env := envT Tryz.prog tPa
theorem Pa_vc (s : List UInt8) (a c : Int) (t : List UInt8) (e : Bool) (l : List Rw) : mcall EtPa noM 200 8 [.string (bs s)] ⟨mkR (nums 0 []), 0⟩ (retIs 0 (.tuple ⟨[.agg ⟨[.int .i64 6, .int .i64 a, .int .i64 0, .int .i64 c, .slice (some ⟨0, 0, none⟩) l.length 3, .string (bs t), .bool e]⟩, .int .i64 0]⟩) [gOwn enR l]) =
  (br (decide (Int.ofNat (List.length (Array.toList (ByteArray.data (bs s)))) > (65536 : Int))) (((6 : Int) = (0 : Int)) /\ ((a = (0 : Int)) /\ (((0 : Int) = (0 : Int)) /\
  ((c = (0 : Int)) /\ ((List.length l = 0) /\ ((bs t = ByteArray.mk #[]) /\ ((e = false) /\ (((0 : Int) = (2 : Int)) /\ ((Eq (α := List Value) (gC enR l) ([])) /\
  True))))))))) ((((True /\ (True /\ (True /\ (True /\ True)))) /\ (True /\ ((Plain (gC enS (spL (bs s))) /\ True) /\ IsSp (bs s))))) /\ ((((True /\ True) /\ (((True /\
  (True /\ True)) /\ (Plain (gC enS (spL (bs s))) /\ True)) /\ ((Plain (gC enS (spL (bs s))) /\ (Plain (gC enR (pcL (Row.mk (gC enS (spL (bs s))) false (Ob.cells true)))) /\
  True)) /\ IsPc (Row.mk (gC enS (spL (bs s))) false (Ob.cells true)) (spN (bs s)))))) /\ (((6 : Int) = (6 : Int)) /\ ((a = pcA (Row.mk (gC enS (spL (bs s))) false (Ob.cells
  true))) /\ (((0 : Int) = (0 : Int)) /\ ((c = pcC (Row.mk (gC enS (spL (bs s))) false (Ob.cells true))) /\ ((0 = 0) /\ ((List.length l = pcK (Row.mk (gC enS (spL (bs s)))
  false (Ob.cells true))) /\ ((bs t = pcT (Row.mk (gC enS (spL (bs s))) false (Ob.cells true))) /\ ((e = pcE (Row.mk (gC enS (spL (bs s))) false (Ob.cells true))) /\ (((0 :
  Int) = (0 : Int)) /\ ((Eq (α := List Value) (gC enR l) (gC enR (pcL (Row.mk (gC enS (spL (bs s))) false (Ob.cells true))))) /\ ((Plain (gC enR l)) /\ True)))))))))))))) := by kernel_rfl
theorem dRw_map (g : PG) (h : okP g) : (g.p.drop 5).map dRw = g.l := by
  obtain ⟨hp, h5⟩ : g.p = pcs g ∧ ∀ r ∈ g.l, noMinP r.h ∧ r.n.length ≤ 4000 ∧ r.v.length ≤ 4000 := ⟨h.1, h.2.2.2.2.2⟩
  clear h
  rw [hp]
  show (g.l.map fun r => rwP r.h r.n r.v).map dRw = g.l
  generalize g.l = l at *
  clear hp
  induction l with
  | nil => rfl
  | cons r l ih =>
    obtain ⟨⟨m1, m2⟩, m3, m4⟩ := h5 r (List.mem_cons_self ..)
    rw [List.map_cons, List.map_cons, ih (fun x hx => h5 x (List.mem_cons_of_mem _ hx))]
    obtain ⟨e0, e1, e2⟩ := p3_eq _ _ _ (rw_ok r.h r.n r.v m1 m3 m4)
    unfold dRw rwP
    rw [e0, e1, e2, unZ_eq, unZ_eq, unI_eq _ m1 m2, L_bs, L_bs]
theorem pcs_cells2 (g : PG) (h : okP g) (b : Bool) (o : Ob) : pcA ⟨gC enS g.p, b, o⟩ = g.a ∧ pcC ⟨gC enS g.p, b, o⟩ = g.c ∧ pcL ⟨gC enS g.p, b, o⟩ = g.l ∧ pcK ⟨gC enS g.p, b, o⟩ = g.l.length := by
  have hm := dRw_map g h
  obtain ⟨h0, ⟨a1, a2⟩, ⟨c1, c2⟩, h3, h4, h5⟩ := h
  unfold pcA pcC pcL pcK
  simp only [sl.sealV_eq, decS_gC, hm]
  rw [h0]
  exact ⟨unI_eq _ a1 a2, unI_eq _ c1 c2, trivial, trivial⟩
theorem eSt_ok : EntOk Tryz.prog eSt := by
  intro a rows p v n' rl h hp
  unfold eSt at h
  simp only at h
  split at h <;> simp only [Option.some.injEq, Prod.mk.injEq, reduceCtorEq] at h
  obtain ⟨rfl, rfl, rfl, rfl⟩ := h
  obtain ⟨g, rfl, rfl, hg⟩ := hp
  obtain ⟨e0, e1, _⟩ := pcs_cells g hg false (.cells true)
  obtain ⟨e2, e3, e4, e5⟩ := pcs_cells2 g hg false (.cells true)
  unfold gOwn
  rw [e0, e1, e2, e3, e4, e5]
  exact St_con g hg
theorem tPa_ok : ∀ x ∈ tPa, EntOk Tryz.prog x := all_cons eSt_ok (all_cons eGs_ok (all_nil))
theorem jn_no (c d : UInt8) (hcd : d ≠ c) : ∀ l : List (List UInt8), (∀ x ∈ l, d ∉ x) → d ∉ jn c l
  | [], _ => fun h => by simp [jn] at h
  | [x], h => h x (List.mem_cons_self ..)
  | x :: y :: r, h => fun hm => by
    rw [jn_cons c x (y :: r) (List.cons_ne_nil _ _)] at hm
    rcases List.mem_append.1 hm with hm | hm
    · exact h x (List.mem_cons_self ..) hm
    · rcases List.mem_cons.1 hm with hm | hm
      · exact hcd hm
      · exact jn_no c d hcd (y :: r) (fun z hz => h z (List.mem_cons_of_mem _ hz)) hm
theorem rwP_no (h : Int) (n v : List UInt8) : (32 : UInt8) ∉ rwP h n v := by
  unfold rwP
  refine jn_no 61 32 (by decide) _ fun x hx => ?_
  simp only [List.mem_cons, List.not_mem_nil, or_false] at hx
  rcases hx with rfl | rfl | rfl
  · exact itoa_no _ _ (.inr rfl)
  · exact word_no _ _ (.inr rfl)
  · exact word_no _ _ (.inr rfl)
theorem pcs_no (g : PG) : ∀ x ∈ pcs g, (32 : UInt8) ∉ x := by
  intro x hx
  unfold pcs at hx
  rcases List.mem_cons.1 hx with rfl | hx
  · decide
  rcases List.mem_cons.1 hx with rfl | hx
  · exact itoa_no _ _ (.inr rfl)
  rcases List.mem_cons.1 hx with rfl | hx
  · exact itoa_no _ _ (.inr rfl)
  rcases List.mem_cons.1 hx with rfl | hx
  · unfold endP; split <;> decide
  rcases List.mem_cons.1 hx with rfl | hx
  · intro h
    rcases List.mem_cons.1 h with h | h
    · exact absurd h (by decide)
    · exact word_no _ _ (.inr rfl) h
  · obtain ⟨r, _, rfl⟩ := List.mem_map.1 hx
    exact rwP_no _ _ _
theorem okP_sp (g : PG) (h : okP g) (hl : (jn 32 g.p).length ≤ 65536) : okSp ⟨32, g.p⟩ := by
  have h1 := pcs_len g
  have h4 := h.2.2.2.2.1
  have h0 := h.1
  refine ⟨by simp only [h0]; omega, by simp only [h0]; omega, by simp only; omega, ?_⟩
  simp only [h0]
  exact pcs_no g
theorem Pa_con (g : PG) (hg : okP g) (hl : (jn 32 g.p).length ≤ 65536) : Con Tryz.prog 8 [.string (bs (jn 32 g.p))] [] (.tuple ⟨[.agg ⟨[.int .i64 6, .int .i64 g.a, .int .i64 0, .int .i64 g.c, .slice (some ⟨0, 0, none⟩) g.l.length 3, .string (bs g.t), .bool g.e]⟩, .int .i64 0]⟩) [gOwn enR g.l] := by
  refine con_vc (E := EtPa) mixed (calls_envT tPa_ok) (lok_envT _ _) (M := noM) lm_none (Pa_vc _ _ _ _ _ _) ?_
  have plS := sPl g.p
  have plR := rPl
  obtain ⟨e0, e1, _⟩ := pcs_cells g hg false (.cells true)
  obtain ⟨e2, e3, e4, e5⟩ := pcs_cells2 g hg false (.cells true)
  obtain ⟨f0, f1⟩ := spL_eq g.p (okP_sp g hg hl)
  have hL : ∀ l : List UInt8, (bs l).data.toList.length = l.length := fun _ => rfl
  simp only [ofNat_eq, toNat_cast, Nat.zero_add, Nat.add_zero, Nat.mul_one, List.drop_zero, bCells_len, bCells_drop, bCells_take, bCells_app, bCells_one, bCells_plain, List.length_replicate, List.length_append, List.length_take, List.length_drop, List.take_length, and_true, true_and, and_self, decide_true, List.length_nil, List.length_cons, Nat.sub_zero, dB_mk, dB_ro, List.take_zero, hL, f0, f1, e0, e1, e2, e3, e4, e5]
  exact br_nd (by omega) ⟨⟨plS, g.p, rfl, okP_sp g hg hl⟩, ⟨plS, ⟨plS, plR _⟩, g, rfl, rfl, hg⟩, plR _⟩
end Go.Proofs.YtnbfhihibgdgpaaGreatDoor.sw
