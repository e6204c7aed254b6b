/- The heads of a step's line, as the document's text writes them. -/
import Derived.Test.YtnbfhihibgdgpaaGreatDoorSz9
import Derived.Test.YtnbfhihibgdgpaaGreatDoorRows
import Derived.Test.YtnbfhihibgdgpaaGreatDoorLslC
set_option maxRecDepth 20000
set_option linter.unusedSimpArgs false
set_option linter.unusedVariables false
namespace Go.Proofs.YtnbfhihibgdgpaaGreatDoor.sl
open Go Go.Ev Go.Sy Go.RowKit Go.Proofs.YtnbfhihibgdgpaaGreatDoor.gl Go.Proofs.YtnbfhihibgdgpaaGreatDoor.tk Go.Proofs.YtnbfhihibgdgpaaGreatDoor.it Go.Proofs.YtnbfhihibgdgpaaGreatDoor.sn
noncomputable def wordS : ByteArray → ByteArray := sealV fun s => bs (wordL (L s))
noncomputable def eWr : EntM := entC 48 fun a r => match a, r with
  | [.string s], [] => some ((L s).length ≤ 4000, .string (wordS s), [])
  | _, _ => none
noncomputable def tRf : List EntM := [eIr, eWr]
noncomputable abbrev EtRf : Env := envT Tryz.prog tRf
def pRl : List Nat := [0, 1, 0, 1, 1]
def slRl (x : GR) (i : Nat) : List (Nat × Value) := [(3, .pointer (some ⟨1, 0, none⟩)), (5, .string (bs (outRo x i))), (6, .int .i64 (i : Nat))]
noncomputable def rlRl (x : GR) : List (Nat × Row) := [(0, gRo enR x.g.l), (1, ⟨stpC x.g, false, .cells false⟩)]
noncomputable def wsRl (x : GR) : List (Gate Unit) := [⟨.exit 0, fun _ => True, fun _ => [(5, .string (bs (outRo x x.g.l.length)))], fun _ => [(0, gRo enR x.g.l)], 1⟩]
noncomputable def specRl : Sy.Spec := specOf 1 2 48 (fun x : GR => okRo x ∧ ∀ r ∈ x.g.l, r.h ≠ -9223372036854775808) (fun x => slRl x 0) (fun x => rlRl x) wsRl
noncomputable def mRl := mOf [(29, pRl, specRl)]
theorem Rl_round (x : GR) (i : Nat) (Inv : Nat → Prop) (m : Nat → Nat) : mev EtRf noM 100 29 (0 :: pRl) false (codeOf Tryz.prog 29 (0 :: pRl)) ⟨mkOv (slRl x i), 48, []⟩ none ⟨mkR (rlRl x), 2⟩ (roundK 1 2 48 Inv m (slRl x) (fun _ => rlRl x) (wsRl x) i) =
  (br (decide ((↑i : Int) < Int.ofNat (List.length x.1.5))) (br (decide (List.length (Array.toList (ByteArray.data (bs (outRo x i)))) + 1 <= 9223372036854775807)) (br
  (decide ((0 : Int) <= (↑i : Int) /\ (↑i : Int) < (↑(List.length x.1.5) : Int))) ((Eq (α := Option Value) ((gC enR x.1.5)[0 + Int.toNat (↑i : Int) * 3 + 2]?) (some
  (Value.int IntKind.i64 (cellI (gC enR x.1.5) (0 + Int.toNat (↑i : Int) * 3 + 2))))) /\ ((((True /\ True) /\ (True /\ (True /\ (I64 (cellI (gC enR x.1.5) (0 + Int.toNat (↑i
  : Int) * 3 + 2)) /\ cellI (gC enR x.1.5) (0 + Int.toNat (↑i : Int) * 3 + 2) ≠ (-9223372036854775808 : Int)))))) /\ (br (decide (List.length (Array.toList (ByteArray.data
  (bs (outRo x i))) ++ [32]) + List.length (Array.toList (ByteArray.data (itoaB (cellI (gC enR x.1.5) (0 + Int.toNat (↑i : Int) * 3 + 2))))) <= 9223372036854775807)) (br
  (decide (List.length (Array.toList (ByteArray.data (bs (outRo x i))) ++ [32] ++ Array.toList (ByteArray.data (itoaB (cellI (gC enR x.1.5) (0 + Int.toNat (↑i : Int) * 3 +
  2))))) + 1 <= 9223372036854775807)) (br (decide ((0 : Int) <= (↑i : Int) /\ (↑i : Int) < (↑(List.length x.1.5) : Int))) ((Eq (α := Option Value) ((gC enR x.1.5)[0 +
  Int.toNat (↑i : Int) * 3 + 0 + 0]?) (some (Value.string (cellS (gC enR x.1.5) (0 + Int.toNat (↑i : Int) * 3 + 0 + 0))))) /\ ((((True /\ True) /\ (True /\ (True /\
  List.length (L (cellS (gC enR x.1.5) (0 + Int.toNat (↑i : Int) * 3 + 0 + 0))) <= 4000)))) /\ (br (decide (List.length (Array.toList (ByteArray.data (bs (outRo x i))) ++
  [32] ++ Array.toList (ByteArray.data (itoaB (cellI (gC enR x.1.5) (0 + Int.toNat (↑i : Int) * 3 + 2)))) ++ [61]) + List.length (Array.toList (ByteArray.data (wordS (cellS
  (gC enR x.1.5) (0 + Int.toNat (↑i : Int) * 3 + 0 + 0))))) <= 9223372036854775807)) (br (decide (List.length (Array.toList (ByteArray.data (bs (outRo x i))) ++ [32] ++
  Array.toList (ByteArray.data (itoaB (cellI (gC enR x.1.5) (0 + Int.toNat (↑i : Int) * 3 + 2)))) ++ [61] ++ Array.toList (ByteArray.data (wordS (cellS (gC enR x.1.5) (0 +
  Int.toNat (↑i : Int) * 3 + 0 + 0))))) + 1 <= 9223372036854775807)) (br (decide ((0 : Int) <= (↑i : Int) /\ (↑i : Int) < (↑(List.length x.1.5) : Int))) ((Eq (α := Option
  Value) ((gC enR x.1.5)[0 + Int.toNat (↑i : Int) * 3 + 0 + 1]?) (some (Value.string (cellS (gC enR x.1.5) (0 + Int.toNat (↑i : Int) * 3 + 0 + 1))))) /\ ((((True /\ True) /\
  (True /\ (True /\ List.length (L (cellS (gC enR x.1.5) (0 + Int.toNat (↑i : Int) * 3 + 0 + 1))) <= 4000)))) /\ (br (decide (List.length (Array.toList (ByteArray.data (bs
  (outRo x i))) ++ [32] ++ Array.toList (ByteArray.data (itoaB (cellI (gC enR x.1.5) (0 + Int.toNat (↑i : Int) * 3 + 2)))) ++ [61] ++ Array.toList (ByteArray.data (wordS
  (cellS (gC enR x.1.5) (0 + Int.toNat (↑i : Int) * 3 + 0 + 0)))) ++ [61]) + List.length (Array.toList (ByteArray.data (wordS (cellS (gC enR x.1.5) (0 + Int.toNat (↑i : Int)
  * 3 + 0 + 1))))) <= 9223372036854775807)) ((Value.slice (some (Addr.mk 0 0 none)) (List.length x.1.5) 3 = Value.slice (some (Addr.mk 0 0 none)) (List.length x.1.5) 3) /\
  ((Eq (α := Option Value) ((gC enR x.1.5)[0 + Int.toNat (↑i : Int) * 3 + 2]?) (some (Value.int IntKind.i64 (cellI (gC enR x.1.5) (0 + Int.toNat (↑i : Int) * 3 + 2))))) /\
  ((Value.int IntKind.i64 (cellI (gC enR x.1.5) (0 + Int.toNat (↑i : Int) * 3 + 2)) = Value.int IntKind.i64 (cellI (gC enR x.1.5) (0 + Int.toNat (↑i : Int) * 3 + 2))) /\
  ((Value.slice (some (Addr.mk 0 0 none)) (List.length x.1.5) 3 = Value.slice (some (Addr.mk 0 0 none)) (List.length x.1.5) 3) /\ ((Value.slice (some (Addr.mk 0 0 none))
  (List.length x.1.5) 3 = Value.slice (some (Addr.mk 0 0 none)) (List.length x.1.5) 3) /\ ((Eq (α := Option Value) ((gC enR x.1.5)[0 + Int.toNat (↑i : Int) * 3 + 0 + 0]?)
  (some (Value.string (cellS (gC enR x.1.5) (0 + Int.toNat (↑i : Int) * 3 + 0 + 0))))) /\ ((Value.string (cellS (gC enR x.1.5) (0 + Int.toNat (↑i : Int) * 3 + 0 + 0)) =
  Value.string (cellS (gC enR x.1.5) (0 + Int.toNat (↑i : Int) * 3 + 0 + 0))) /\ ((Eq (α := Option Value) ((gC enR x.1.5)[0 + Int.toNat (↑i : Int) * 3 + 0 + 0]?) (some
  (Value.string (cellS (gC enR x.1.5) (0 + Int.toNat (↑i : Int) * 3 + 0 + 0))))) /\ ((Value.string (cellS (gC enR x.1.5) (0 + Int.toNat (↑i : Int) * 3 + 0 + 0)) =
  Value.string (cellS (gC enR x.1.5) (0 + Int.toNat (↑i : Int) * 3 + 0 + 0))) /\ ((Value.slice (some (Addr.mk 0 0 none)) (List.length x.1.5) 3 = Value.slice (some (Addr.mk 0
  0 none)) (List.length x.1.5) 3) /\ ((Value.slice (some (Addr.mk 0 0 none)) (List.length x.1.5) 3 = Value.slice (some (Addr.mk 0 0 none)) (List.length x.1.5) 3) /\
  ((Value.slice (some (Addr.mk 0 0 none)) (List.length x.1.5) 3 = Value.slice (some (Addr.mk 0 0 none)) (List.length x.1.5) 3) /\ ((Eq (α := Option Value) ((gC enR x.1.5)[0
  + Int.toNat (↑i : Int) * 3 + 0 + 1]?) (some (Value.string (cellS (gC enR x.1.5) (0 + Int.toNat (↑i : Int) * 3 + 0 + 1))))) /\ ((Value.string (cellS (gC enR x.1.5) (0 +
  Int.toNat (↑i : Int) * 3 + 0 + 1)) = Value.string (cellS (gC enR x.1.5) (0 + Int.toNat (↑i : Int) * 3 + 0 + 1))) /\ ((Eq (α := Option Value) ((gC enR x.1.5)[0 + Int.toNat
  (↑i : Int) * 3 + 0 + 1]?) (some (Value.string (cellS (gC enR x.1.5) (0 + Int.toNat (↑i : Int) * 3 + 0 + 1))))) /\ ((Value.string (cellS (gC enR x.1.5) (0 + Int.toNat (↑i :
  Int) * 3 + 0 + 1)) = Value.string (cellS (gC enR x.1.5) (0 + Int.toNat (↑i : Int) * 3 + 0 + 1))) /\ ((Eq (α := Option Value) ((gC enR x.1.5)[0 + Int.toNat (↑i : Int) * 3 +
  0 + 1]?) (some (Value.string (cellS (gC enR x.1.5) (0 + Int.toNat (↑i : Int) * 3 + 0 + 1))))) /\ ((Value.string (cellS (gC enR x.1.5) (0 + Int.toNat (↑i : Int) * 3 + 0 +
  1)) = Value.string (cellS (gC enR x.1.5) (0 + Int.toNat (↑i : Int) * 3 + 0 + 1))) /\ (∃ j : Nat, ((Inv j) /\ ((m j < m i) /\ ((0 = 0) /\ ((bs (outRo x j) = bs (outRo x i)
  ++ ByteArray.mk #[32] ++ itoaB (cellI (gC enR x.1.5) (0 + Int.toNat (↑i : Int) * 3 + 2)) ++ ByteArray.mk #[61] ++ wordS (cellS (gC enR x.1.5) (0 + Int.toNat (↑i : Int) * 3
  + 0 + 0)) ++ ByteArray.mk #[61] ++ wordS (cellS (gC enR x.1.5) (0 + Int.toNat (↑i : Int) * 3 + 0 + 1))) /\ (((↑j : Int) = IntKind.wrap IntKind.i64 ((↑i : Int) + (1 :
  Int))) /\ ((Eq (α := List Value) (gC enR x.1.5) (gC enR x.1.5)) /\ ((Plain (gC enR x.1.5)) /\ ((x.1.1 = x.1.1) /\ ((x.1.2 = x.1.2) /\ ((x.1.3 = x.1.3) /\ ((x.1.4 = x.1.4)
  /\ ((0 = 0) /\ ((List.length x.1.5 = List.length x.1.5) /\ ((bs x.1.6 = bs x.1.6) /\ ((x.1.7 = x.1.7) /\ True)))))))))))))))))))))))))))))))))) False))) False) False)
  False))) False) False) False))) False) False) (∃ y : Unit, ((True) /\ ((bs (outRo x (List.length x.1.5)) = bs (outRo x i)) /\ ((Eq (α := List Value) (gC enR x.1.5) (gC enR
  x.1.5)) /\ ((Plain (gC enR x.1.5)) /\ True)))))) := by kernel_rfl
theorem Rl_vc (g : GS) (h : List UInt8) (v : ByteArray) : mcall EtRf mRl 100 29 [.string (bs h), .agg ⟨stpC g⟩] ⟨mkR (nums 0 [gRo enR g.l]), 1⟩ (retIs 1 (.string v) [gRo enR g.l]) =
  (br (g.7) (br (decide (List.length (Array.toList (ByteArray.data (bs h))) + 5 <= 9223372036854775807)) (br (decide (List.length (Array.toList (ByteArray.data (bs h)) ++
  [32, 101, 110, 100, 32]) + 1 <= 9223372036854775807)) ((((True /\ True) /\ (True /\ (True /\ List.length (L (bs g.6)) <= 4000)))) /\ (br (decide (List.length (Array.toList
  (ByteArray.data (bs h)) ++ [32, 101, 110, 100, 32] ++ [61]) + List.length (Array.toList (ByteArray.data (wordS (bs g.6)))) <= 9223372036854775807)) (∃ g2 : GR, ((okRo g2
  /\ ∀ (r : Rw), r ∈ GS.l (GR.g g2) → Rw.h r ≠ (-9223372036854775808 : Int)) /\ ((0 = 0) /\ ((bs (outRo g2 0) = bs h ++ ByteArray.mk #[32, 101, 110, 100, 32] ++ ByteArray.mk
  #[61] ++ wordS (bs g.6)) /\ (((0 : Int) = (0 : Int)) /\ ((Eq (α := List Value) (gC enR g2.1.5) (gC enR g.5)) /\ ((Plain (gC enR g2.1.5)) /\ ((g2.1.1 = g.1) /\ ((g2.1.2 =
  g.2) /\ ((g2.1.3 = g.3) /\ ((g2.1.4 = g.4) /\ ((0 = 0) /\ ((List.length g2.1.5 = List.length g.5) /\ ((bs g2.1.6 = bs g.6) /\ ((g2.1.7 = g.7) /\ (∀ (y : Unit), ((True) →
  ((v = bs (outRo g2 (List.length g2.1.5))) /\ ((Eq (α := List Value) (gC enR g.5) (gC enR g2.1.5)) /\ ((Plain (gC enR g.5)) /\ True)))))))))))))))))))) False)) False)
  False) (br (decide (List.length (Array.toList (ByteArray.data (bs h))) + 4 <= 9223372036854775807)) (br (decide (List.length (Array.toList (ByteArray.data (bs h)) ++ [32,
  111, 110, 32]) + 1 <= 9223372036854775807)) ((((True /\ True) /\ (True /\ (True /\ List.length (L (bs g.6)) <= 4000)))) /\ (br (decide (List.length (Array.toList
  (ByteArray.data (bs h)) ++ [32, 111, 110, 32] ++ [61]) + List.length (Array.toList (ByteArray.data (wordS (bs g.6)))) <= 9223372036854775807)) (∃ g2 : GR, ((okRo g2 /\ ∀
  (r : Rw), r ∈ GS.l (GR.g g2) → Rw.h r ≠ (-9223372036854775808 : Int)) /\ ((0 = 0) /\ ((bs (outRo g2 0) = bs h ++ ByteArray.mk #[32, 111, 110, 32] ++ ByteArray.mk #[61] ++
  wordS (bs g.6)) /\ (((0 : Int) = (0 : Int)) /\ ((Eq (α := List Value) (gC enR g2.1.5) (gC enR g.5)) /\ ((Plain (gC enR g2.1.5)) /\ ((g2.1.1 = g.1) /\ ((g2.1.2 = g.2) /\
  ((g2.1.3 = g.3) /\ ((g2.1.4 = g.4) /\ ((0 = 0) /\ ((List.length g2.1.5 = List.length g.5) /\ ((bs g2.1.6 = bs g.6) /\ ((g2.1.7 = g.7) /\ (∀ (y : Unit), ((True) → ((v = bs
  (outRo g2 (List.length g2.1.5))) /\ ((Eq (α := List Value) (gC enR g.5) (gC enR g2.1.5)) /\ ((Plain (gC enR g.5)) /\ True)))))))))))))))))))) False)) False) False)) := by kernel_rfl
theorem wordS_bs (l : List UInt8) : wordS (bs l) = bs (wordL l) := by unfold wordS; rw [sealV_eq]; rfl
theorem eWr_ok : EntOk Tryz.prog eWr := entC_ok (by
  intro a rows p v news h hp
  split at h <;> simp only [Option.some.injEq, Prod.mk.injEq, reduceCtorEq] at h
  obtain ⟨rfl, rfl, rfl⟩ := h
  rename_i s
  rw [← eWo_arg s, wordS_bs]
  exact Wr_con (L s) hp)
theorem tRf_ok : ∀ x ∈ tRf, EntOk Tryz.prog x := all_cons eIr_ok (all_cons eWr_ok (all_nil))
theorem itoaB_bs (n : Int) : itoaB n = bs (Lib.itoa n) := by rw [z_itoa]; rfl
theorem Rl_piece : PieceOk EtRf 1 (29, pRl, specRl) := by
  refine piece_loop mixed (calls_envT tRf_ok) (lok_envT _ _) lm_none (n := 100) (by kernel_rfl) (fun _ => (0 : Nat)) (fun x i => i ≤ x.g.l.length) (fun x i => x.g.l.length - i) (sl := slRl) (rl := fun x _ => rlRl x) (fun x hg => Nat.zero_le _) (fun x i hg hi => ?_)
  refine (Rl_round x i _ _).mpr ?_
  obtain ⟨hg, hm⟩ : okRo x ∧ ∀ r ∈ x.g.l, r.h ≠ -9223372036854775808 := hg
  obtain ⟨g1, g2, g3⟩ := id hg
  unfold maxLen at g1
  have ho := out_le x i hg
  simp only [ofNat_eq, toNat_cast, Nat.zero_add, Nat.add_zero, Nat.mul_one, List.drop_zero, bCells_len, bCells_drop, bCells_take, bCells_app, bCells_one, bCells_plain, List.length_replicate, List.length_append, List.length_take, List.length_drop, List.take_length, and_true, true_and, and_self, decide_true, List.length_nil, List.length_cons, Nat.sub_zero, dB_mk, dB_ro, List.take_zero]
  refine br_if (fun h => ?_) (fun h => ?_)
  · have h1 : i < x.g.l.length := by omega
    obtain ⟨c0, c1, c2, d0, d1, d2⟩ := rGet x.g.l i h1
    obtain ⟨r1, r2, r3⟩ := g2 _ (List.getElem_mem h1)
    have r4 := hm _ (List.getElem_mem h1)
    have hn := out_next x i h1
    have w1 : IntKind.i64.wrap ((i : Int) + 1) = ((i + 1 : Nat) : Int) := by rw [wr64_id (by unfold I64; omega)]; omega
    have hit := itoa_le _ r1
    have l1 := word_le x.g.l[i].n
    have l2 := word_le x.g.l[i].v
    try rw [d0, d1, d2]
    simp only [wordS_bs, itoaB_bs, w1]
    generalize x.g.l[i] = r at *
    generalize hP : outRo x i = P at *
    generalize hX : Lib.itoa r.h = X at *
    generalize hV : wordL r.n = V at *
    generalize hU : wordL r.v = U at *
    have e32 : (⟨#[32]⟩ : ByteArray) = bs [32] := rfl
    have e61 : (⟨#[61]⟩ : ByteArray) = bs [61] := rfl
    have qb : ∀ l : List UInt8, (bs l).data.toList.length = l.length := fun _ => rfl
    have q0 : (L (bs r.n)).length = r.n.length := rfl
    have q1 : (L (bs r.v)).length = r.v.length := rfl
    have pl := rPl x.g.l
    simp only [e32, e61, qb, bs_app]
    repeat' first
      | refine br_dec (by omega) ?_
      | refine br_b rfl ?_
      | refine And.intro (by omega) ?_
      | refine And.intro (by assumption) ?_
      | refine And.intro (And.intro (by assumption) (by assumption)) ?_
    exact ⟨i + 1, by omega, by omega, by rw [hn]; simp, rfl, pl⟩
  · have : i = x.g.l.length := by omega
    subst this
    exact ⟨(), rfl, rPl _⟩
theorem Rl_con (g : GS) (h : List UInt8) (hh : h.length ≤ 100) (ht : g.t.length ≤ 4000) (hl : g.l.length ≤ maxLen) (hr : ∀ r ∈ g.l, okRw r) (hm : ∀ r ∈ g.l, r.h ≠ -9223372036854775808) (hs : (rwsL g.l).length ≤ 900000) :
    Con Tryz.prog 29 [.string (bs h), .agg ⟨stpC g⟩] [gRo enR g.l] (.string (bs (h ++ ((if g.e = true then [32, 101, 110, 100, 32, 61] else [32, 111, 110, 32, 61]) ++ wordL g.t) ++ rwsL g.l))) [gRo enR g.l] := by
  refine con_vc (E := EtRf) mixed (calls_envT tRf_ok) (lok_envT _ _) (M := mRl) (lm_one Rl_piece) (Rl_vc g h _) ?_
  have lw := word_le g.t
  have qt : (L (bs g.t)).length = g.t.length := rfl
  have qb : ∀ l : List UInt8, (bs l).data.toList.length = l.length := fun _ => rfl
  have pl := rPl g.l
  have e1 : (⟨#[32, 101, 110, 100, 32]⟩ : ByteArray) = bs [32, 101, 110, 100, 32] := rfl
  have e2 : (⟨#[32, 111, 110, 32]⟩ : ByteArray) = bs [32, 111, 110, 32] := rfl
  have e61 : (⟨#[61]⟩ : ByteArray) = bs [61] := rfl
  simp only [ofNat_eq, toNat_cast, Nat.zero_add, Nat.add_zero, Nat.mul_one, List.drop_zero, bCells_len, bCells_drop, bCells_take, bCells_app, bCells_one, bCells_plain, List.length_replicate, List.length_append, List.length_take, List.length_drop, List.take_length, and_true, true_and, and_self, decide_true, List.length_nil, List.length_cons, Nat.sub_zero, dB_mk, dB_ro, List.take_zero, wordS_bs, e1, e2, e61, bs_app, qb]
  repeat' first
    | refine br_dec (by omega) ?_
    | refine br_b rfl ?_
    | refine And.intro (by omega) ?_
    | refine And.intro (by assumption) ?_
    | refine br_intro (fun he => ?_) (fun he => ?_)
  all_goals
    have hx : ∀ (o : List UInt8) (i : Nat), outRo ⟨g, o⟩ i = o ++ rwsL (g.l.take i) := fun _ _ => rfl
    have h0 : ∀ o : List UInt8, outRo ⟨g, o⟩ 0 = o := fun o => by rw [hx]; simp [rwsL]
    have hll : ∀ o : List UInt8, outRo ⟨g, o⟩ g.l.length = o ++ rwsL g.l := fun o => by rw [hx, List.take_length]
    refine ⟨⟨g, h ++ ((if g.e = true then [32, 101, 110, 100, 32, 61] else [32, 111, 110, 32, 61]) ++ wordL g.t)⟩, ⟨⟨hl, hr, ?_⟩, hm⟩, ?_, rfl, pl, rfl, rfl, rfl, rfl, rfl, rfl, rfl, fun _ _ => ⟨?_, rfl, pl⟩⟩
    · simp only [he, if_true, if_false, Bool.false_eq_true, reduceIte, List.length_append, List.length_cons, List.length_nil]; omega
    · rw [h0, he]; simp
    · rw [hll]
end Go.Proofs.YtnbfhihibgdgpaaGreatDoor.sl
