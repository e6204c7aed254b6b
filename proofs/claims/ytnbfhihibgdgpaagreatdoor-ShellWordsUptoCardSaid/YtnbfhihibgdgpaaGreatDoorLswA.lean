/- A word read back. -/
import Derived.Test.YtnbfhihibgdgpaaGreatDoorSz9
import Derived.Test.YtnbfhihibgdgpaaGreatDoorRows
import Derived.Test.YtnbfhihibgdgpaaGreatDoorLslB
import Derived.Test.YtnbfhihibgdgpaaGreatDoorLcrS
set_option maxRecDepth 20000
set_option linter.unusedSimpArgs false
set_option linter.unusedVariables false
namespace Go.Proofs.YtnbfhihibgdgpaaGreatDoor.sw
open Go Go.Ev Go.Sy Go.RowKit Go.Proofs.YtnbfhihibgdgpaaGreatDoor.gl Go.Proofs.YtnbfhihibgdgpaaGreatDoor.tk Go.Proofs.YtnbfhihibgdgpaaGreatDoor.sl
noncomputable def ixZ : Int → Int := sealV fun c => Lib.indexByte dig16.data.toList c.toNat.toUInt8
noncomputable def eIxb : EntM := entC 103 fun a r => match a, r with
  | [.string s, .int .u8 c], [] => some (s = dig16 ∧ 0 ≤ c ∧ c < 256, .int .i64 (ixZ c), [])
  | _, _ => none
noncomputable def tIx : List EntM := [Go.Proofs.YtnbfhihibgdgpaaGreatDoor.cr.eIx]
noncomputable abbrev EtIx : Env := envT Tryz.prog tIx
noncomputable def tSw : List EntM := [eCod, eIxb]
noncomputable abbrev EtSw : Env := envT Tryz.prog tSw
structure RD where
  l : List (List UInt8)
  a : Int
noncomputable def rdR (x : RD) : List (Nat × Row) := [(0, ⟨[.slice (some ⟨1, 0, none⟩) x.l.length 1, .int .i64 x.a], false, .cells false⟩), (1, ⟨gC enS x.l, false, .cells true⟩)]
noncomputable def rdL (x : RD) : List Row := [⟨[.slice (some ⟨1, 0, none⟩) x.l.length 1, .int .i64 x.a], false, .cells false⟩, ⟨gC enS x.l, false, .cells true⟩]
structure GW where
  x : RD
  t : List UInt8
def pRw : List Nat := [0, 1, 0, 1, 1]
def slRw (g : GW) (j : Nat) : List (Nat × Value) := [(0, .pointer (some ⟨0, 0, none⟩)), (1, .string (bs (wordL g.t))), (5, .slice (some ⟨2, 0, none⟩) (g.t.take j).length 1), (6, .int .i64 ((wordL (g.t.take j)).length : Nat))]
noncomputable def rlRw (g : GW) (j : Nat) : List (Nat × Row) := rdR g.x ++ [(2, bOwn (g.t.take j))]
noncomputable def wsRw (g : GW) : List (Gate Unit) := [⟨.exit 0, fun _ => True, fun _ => [(5, .slice (some ⟨2, 0, none⟩) g.t.length 1)], fun _ => rdR g.x ++ [(2, bOwn g.t)], 3⟩]
noncomputable def specRw : Sy.Spec := specOf 2 3 57 (fun g : GW => g.t.length ≤ 4000) (fun g => slRw g 0) (fun g => rlRw g 0) wsRw
noncomputable def mRw := mOf [(54, pRw, specRw)]
theorem Ixb_vc (c : Nat) (n : Int) : mcall EtIx noM 60 103 [.string ⟨#[48, 49, 50, 51, 52, 53, 54, 55, 56, 57, 97, 98, 99, 100, 101, 102]⟩, .int .u8 (.ofNat c)] ⟨mkR (nums 0 []), 0⟩ (retIs 0 (.int .i64 n) []) =
  ((((True /\ (True /\ True)) /\ (True /\ (True /\ True)))) /\ ((n = Lib.indexByte [48, 49, 50, 51, 52, 53, 54, 55, 56, 57, 97, 98, 99, 100, 101, 102] (Nat.toUInt8 c)) /\
  True)) := by kernel_rfl
theorem Rw_round (g : GW) (j : Nat) (Inv : Nat → Prop) (m : Nat → Nat) : mev EtSw noM 60 54 (0 :: pRw) false (codeOf Tryz.prog 54 (0 :: pRw)) ⟨mkOv (slRw g j), 57, []⟩ none ⟨mkR (rlRw g j), 3⟩ (roundK 2 3 57 Inv m (slRw g) (rlRw g) (wsRw g) j) =
  (br (decide ((↑(List.length (wordL (List.take j g.2))) : Int) < Int.ofNat (List.length (Array.toList (ByteArray.data (bs (wordL g.2))))))) (br (decide ((0 : Int) <=
  (↑(List.length (wordL (List.take j g.2))) : Int) /\ (↑(List.length (wordL (List.take j g.2))) : Int) < (↑(List.length (Array.toList (ByteArray.data (bs (wordL g.2))))) :
  Int))) (br (byteAt (bs (wordL g.2)) (Int.toNat (↑(List.length (wordL (List.take j g.2))) : Int)) == (37 : Int)) (br (!decide (IntKind.wrap IntKind.i64 ((↑(List.length
  (wordL (List.take j g.2))) : Int) + (2 : Int)) < Int.ofNat (List.length (Array.toList (ByteArray.data (bs (wordL g.2))))))) False (br (decide ((0 : Int) <= IntKind.wrap
  IntKind.i64 ((↑(List.length (wordL (List.take j g.2))) : Int) + (1 : Int)) /\ IntKind.wrap IntKind.i64 ((↑(List.length (wordL (List.take j g.2))) : Int) + (1 : Int)) <
  (↑(List.length (Array.toList (ByteArray.data (bs (wordL g.2))))) : Int))) ((((True /\ (True /\ True)) /\ (True /\ (True /\ (ByteArray.mk #[48, 49, 50, 51, 52, 53, 54, 55,
  56, 57, 97, 98, 99, 100, 101, 102] = dig16 /\ ((0 : Int) <= byteAt (bs (wordL g.2)) (Int.toNat (IntKind.wrap IntKind.i64 ((↑(List.length (wordL (List.take j g.2))) : Int)
  + (1 : Int)))) /\ byteAt (bs (wordL g.2)) (Int.toNat (IntKind.wrap IntKind.i64 ((↑(List.length (wordL (List.take j g.2))) : Int) + (1 : Int)))) < (256 : Int))))))) /\ (br
  (!decide (ixZ (byteAt (bs (wordL g.2)) (Int.toNat (IntKind.wrap IntKind.i64 ((↑(List.length (wordL (List.take j g.2))) : Int) + (1 : Int))))) ≥ (0 : Int))) False (br
  (decide ((0 : Int) <= IntKind.wrap IntKind.i64 ((↑(List.length (wordL (List.take j g.2))) : Int) + (2 : Int)) /\ IntKind.wrap IntKind.i64 ((↑(List.length (wordL (List.take
  j g.2))) : Int) + (2 : Int)) < (↑(List.length (Array.toList (ByteArray.data (bs (wordL g.2))))) : Int))) ((((True /\ (True /\ True)) /\ (True /\ (True /\ (ByteArray.mk
  #[48, 49, 50, 51, 52, 53, 54, 55, 56, 57, 97, 98, 99, 100, 101, 102] = dig16 /\ ((0 : Int) <= byteAt (bs (wordL g.2)) (Int.toNat (IntKind.wrap IntKind.i64 ((↑(List.length
  (wordL (List.take j g.2))) : Int) + (2 : Int)))) /\ byteAt (bs (wordL g.2)) (Int.toNat (IntKind.wrap IntKind.i64 ((↑(List.length (wordL (List.take j g.2))) : Int) + (2 :
  Int)))) < (256 : Int))))))) /\ (br (!decide (ixZ (byteAt (bs (wordL g.2)) (Int.toNat (IntKind.wrap IntKind.i64 ((↑(List.length (wordL (List.take j g.2))) : Int) + (2 :
  Int))))) ≥ (0 : Int))) False ((((True /\ True) /\ (True /\ (True /\ ((0 : Int) <= ior IntKind.u8 (ishl IntKind.u8 (IntKind.wrap IntKind.u8 (ixZ (byteAt (bs (wordL g.2))
  (Int.toNat (IntKind.wrap IntKind.i64 ((↑(List.length (wordL (List.take j g.2))) : Int) + (1 : Int))))))) (4 : Int)) (IntKind.wrap IntKind.u8 (ixZ (byteAt (bs (wordL g.2))
  (Int.toNat (IntKind.wrap IntKind.i64 ((↑(List.length (wordL (List.take j g.2))) : Int) + (2 : Int))))))) /\ ior IntKind.u8 (ishl IntKind.u8 (IntKind.wrap IntKind.u8 (ixZ
  (byteAt (bs (wordL g.2)) (Int.toNat (IntKind.wrap IntKind.i64 ((↑(List.length (wordL (List.take j g.2))) : Int) + (1 : Int))))))) (4 : Int)) (IntKind.wrap IntKind.u8 (ixZ
  (byteAt (bs (wordL g.2)) (Int.toNat (IntKind.wrap IntKind.i64 ((↑(List.length (wordL (List.take j g.2))) : Int) + (2 : Int))))))) < (256 : Int)))))) /\ (br (!codZ (ior
  IntKind.u8 (ishl IntKind.u8 (IntKind.wrap IntKind.u8 (ixZ (byteAt (bs (wordL g.2)) (Int.toNat (IntKind.wrap IntKind.i64 ((↑(List.length (wordL (List.take j g.2))) : Int) +
  (1 : Int))))))) (4 : Int)) (IntKind.wrap IntKind.u8 (ixZ (byteAt (bs (wordL g.2)) (Int.toNat (IntKind.wrap IntKind.i64 ((↑(List.length (wordL (List.take j g.2))) : Int) +
  (2 : Int))))))))) False (br (decide (List.length (List.take j g.2) + 1 <= 16777216)) (br (decide (0 + List.length (List.take j g.2) * 1 <= List.length (bCells (List.take j
  g.2)))) (∃ j2 : Nat, ((Inv j2) /\ ((m j2 < m j) /\ ((0 = 0) /\ ((bs (wordL g.2) = bs (wordL g.2)) /\ ((0 = 0) /\ ((List.length (List.take j2 g.2) = List.length (List.take
  j g.2) + 1) /\ (((↑(List.length (wordL (List.take j2 g.2))) : Int) = IntKind.wrap IntKind.i64 (IntKind.wrap IntKind.i64 ((↑(List.length (wordL (List.take j g.2))) : Int) +
  (2 : Int)) + (1 : Int))) /\ ((0 = 0) /\ ((List.length g.1.1 = List.length g.1.1) /\ ((g.1.2 = g.1.2) /\ ((Eq (α := List Value) (gC enS g.1.1) (gC enS g.1.1)) /\ ((Plain
  (gC enS g.1.1)) /\ ((Eq (α := List Value) (bCells (List.take j2 g.2)) (List.take (List.length (List.take j g.2) * 1) (List.drop 0 (bCells (List.take j g.2))) ++ [Value.int
  IntKind.u8 (ior IntKind.u8 (ishl IntKind.u8 (IntKind.wrap IntKind.u8 (ixZ (byteAt (bs (wordL g.2)) (Int.toNat (IntKind.wrap IntKind.i64 ((↑(List.length (wordL (List.take j
  g.2))) : Int) + (1 : Int))))))) (4 : Int)) (IntKind.wrap IntKind.u8 (ixZ (byteAt (bs (wordL g.2)) (Int.toNat (IntKind.wrap IntKind.i64 ((↑(List.length (wordL (List.take j
  g.2))) : Int) + (2 : Int))))))))])) /\ ((Plain (bCells (List.take j2 g.2))) /\ True))))))))))))))) False) False))))) False))) False)) ((((True /\ True) /\ (True /\ (True
  /\ ((0 : Int) <= byteAt (bs (wordL g.2)) (Int.toNat (↑(List.length (wordL (List.take j g.2))) : Int)) /\ byteAt (bs (wordL g.2)) (Int.toNat (↑(List.length (wordL
  (List.take j g.2))) : Int)) < (256 : Int)))))) /\ (br (!!codZ (byteAt (bs (wordL g.2)) (Int.toNat (↑(List.length (wordL (List.take j g.2))) : Int)))) False (br (decide
  (List.length (List.take j g.2) + 1 <= 16777216)) (br (decide (0 + List.length (List.take j g.2) * 1 <= List.length (bCells (List.take j g.2)))) (∃ j2 : Nat, ((Inv j2) /\
  ((m j2 < m j) /\ ((0 = 0) /\ ((bs (wordL g.2) = bs (wordL g.2)) /\ ((0 = 0) /\ ((List.length (List.take j2 g.2) = List.length (List.take j g.2) + 1) /\ (((↑(List.length
  (wordL (List.take j2 g.2))) : Int) = IntKind.wrap IntKind.i64 ((↑(List.length (wordL (List.take j g.2))) : Int) + (1 : Int))) /\ ((0 = 0) /\ ((List.length g.1.1 =
  List.length g.1.1) /\ ((g.1.2 = g.1.2) /\ ((Eq (α := List Value) (gC enS g.1.1) (gC enS g.1.1)) /\ ((Plain (gC enS g.1.1)) /\ ((Eq (α := List Value) (bCells (List.take j2
  g.2)) (List.take (List.length (List.take j g.2) * 1) (List.drop 0 (bCells (List.take j g.2))) ++ [Value.int IntKind.u8 (byteAt (bs (wordL g.2)) (Int.toNat (↑(List.length
  (wordL (List.take j g.2))) : Int)))])) /\ ((Plain (bCells (List.take j2 g.2))) /\ True))))))))))))))) False) False)))) False) (∃ y : Unit, ((True) /\ ((0 = 0) /\
  ((List.length g.2 = List.length (List.take j g.2)) /\ ((0 = 0) /\ ((List.length g.1.1 = List.length g.1.1) /\ ((g.1.2 = g.1.2) /\ ((Eq (α := List Value) (gC enS g.1.1) (gC
  enS g.1.1)) /\ ((Plain (gC enS g.1.1)) /\ ((Eq (α := List Value) (bCells g.2) (bCells (List.take j g.2))) /\ ((Plain (bCells g.2)) /\ True)))))))))))) := by kernel_rfl
theorem tIx_ok : ∀ x ∈ tIx, EntOk Tryz.prog x := all_cons Go.Proofs.YtnbfhihibgdgpaaGreatDoor.cr.eIx_ok (all_nil)
theorem Ixb_con (c : Nat) (h : c < 256) : Con Tryz.prog 103 [.string dig16, .int .u8 (c : Int)] [] (.int .i64 (ixZ c)) [] := by
  refine con_vc (E := EtIx) mixed (calls_envT tIx_ok) (lok_envT _ _) (M := noM) lm_none (Ixb_vc c _) ?_
  simp only [ofNat_eq, toNat_cast, Nat.zero_add, Nat.add_zero, Nat.mul_one, List.drop_zero, bCells_len, bCells_drop, bCells_take, bCells_app, bCells_one, bCells_plain, List.length_replicate, List.length_append, List.length_take, List.length_drop, List.take_length, and_true, true_and, and_self, decide_true, List.length_nil, List.length_cons, Nat.sub_zero, dB_mk, dB_ro, List.take_zero]
  unfold ixZ; rw [sealV_eq]; rfl
theorem eIxb_ok : EntOk Tryz.prog eIxb := entC_ok (by
  intro a rows p v news h hp
  split at h <;> simp only [Option.some.injEq, Prod.mk.injEq, reduceCtorEq] at h
  obtain ⟨rfl, rfl, rfl⟩ := h
  rename_i s c
  obtain ⟨rfl, h1, h2⟩ := hp
  obtain ⟨n, rfl⟩ : ∃ n : Nat, c = n := ⟨c.toNat, by omega⟩
  exact Ixb_con n (by omega))
theorem tSw_ok : ∀ x ∈ tSw, EntOk Tryz.prog x := all_cons eCod_ok (all_cons eIxb_ok (all_nil))
def okR (n : Nat) : Bool := decide (Lib.indexByte dig16.data.toList ((hexd (n / 16)).toNat).toUInt8 = ((n / 16 : Nat) : Int)) && (decide (Lib.indexByte dig16.data.toList ((hexd (n % 16)).toNat).toUInt8 = ((n % 16 : Nat) : Int)) && decide (ior .u8 (ishl .u8 (IntKind.wrap .u8 ((n / 16 : Nat) : Int)) 4) (IntKind.wrap .u8 ((n % 16 : Nat) : Int)) = (n : Int)))
theorem all17 : (List.range 256).all okR = true := by decide +kernel
theorem of17 (b : UInt8) : ixZ ((hexd (b.toNat / 16)).toNat : Int) = ((b.toNat / 16 : Nat) : Int) ∧ ixZ ((hexd (b.toNat % 16)).toNat : Int) = ((b.toNat % 16 : Nat) : Int) ∧ ior .u8 (ishl .u8 (IntKind.wrap .u8 ((b.toNat / 16 : Nat) : Int)) 4) (IntKind.wrap .u8 ((b.toNat % 16 : Nat) : Int)) = (b.toNat : Int) := by
  have h := List.all_eq_true.1 all17 b.toNat (List.mem_range.2 b.toNat_lt)
  simp only [okR, Bool.and_eq_true, decide_eq_true_eq] at h
  refine ⟨?_, ?_, h.2.2⟩
  · unfold ixZ; rw [sealV_eq]; exact h.1
  · unfold ixZ; rw [sealV_eq]; exact h.2.1
theorem byte_at (A : List UInt8) (x : UInt8) (R : List UInt8) (n : Nat) (h : n = A.length) : byteAt (bs (A ++ x :: R)) n = (x.toNat : Int) := by
  have h1 : n < (A ++ x :: R).length := by simp; omega
  rw [byteAt_bs h1]
  subst h; simp
theorem word_split (t : List UInt8) (j : Nat) (h : j < t.length) : wordL t = wordL (t.take j) ++ (wB t[j] ++ wordL (t.drop (j + 1))) := by
  have e : t = t.take j ++ t[j] :: t.drop (j + 1) := by rw [← List.drop_eq_getElem_cons h, List.take_append_drop]
  have e2 : wordL t = wordL (t.take j ++ t[j] :: t.drop (j + 1)) := congrArg wordL e
  rw [e2]; unfold wordL; rw [List.flatMap_append, List.flatMap_cons]
theorem Rw_piece : PieceOk EtSw 2 (54, pRw, specRw) := by
  refine piece_loop mixed (calls_envT tSw_ok) (lok_envT _ _) lm_none (n := 60) (by kernel_rfl) (fun _ => (0 : Nat)) (fun g j => j ≤ g.t.length) (fun g j => g.t.length - j) (sl := slRw) (rl := rlRw) (fun g hg => Nat.zero_le _) (fun g j hg hi => ?_)
  refine (Rw_round g j _ _).mpr ?_
  have hg : g.t.length ≤ 4000 := hg
  have hL : (bs (wordL g.t)).data.toList.length = (wordL g.t).length := rfl
  have hw := word_le g.t
  have plS : Plain (gC enS g.x.l) := gC_plain (by intro a v hv; simp [enS] at hv; rw [hv]; rfl) _
  simp only [ofNat_eq, toNat_cast, Nat.zero_add, Nat.add_zero, Nat.mul_one, List.drop_zero, bCells_len, bCells_drop, bCells_take, bCells_app, bCells_one, bCells_plain, List.length_replicate, List.length_append, List.length_take, List.length_drop, List.take_length, and_true, true_and, and_self, decide_true, List.length_nil, List.length_cons, Nat.sub_zero, dB_mk, dB_ro, List.take_zero, hL]
  by_cases hj : j < g.t.length
  · have hs := word_split g.t j hj
    have hn := word_succ g.t j hj
    have hlt := g.t[j].toNat_lt
    obtain ⟨o1, o2, o3⟩ := of17 g.t[j]
    have hz : codZ (g.t[j].toNat : Int) = codB g.t[j] := by
      unfold codZ; rw [sealV_eq]; simp
    have ht : (g.t.take (j + 1)).length = j + 1 := by rw [List.length_take]; omega
    have ht0 : (g.t.take j).length = j := by rw [List.length_take]; omega
    have htc : bCells (g.t.take (j + 1)) = bCells (g.t.take j) ++ [.int .u8 (g.t[j].toNat : Int)] := by
      rw [List.take_succ_eq_append_getElem hj, ← bCells_app]; rfl
    have hlen := congrArg List.length hs
    have hlen2 := congrArg List.length hn
    simp only [List.length_append] at hlen hlen2
    by_cases hc : codB g.t[j] = true
    · have hB : wB g.t[j] = [37, hexd (g.t[j].toNat / 16), hexd (g.t[j].toNat % 16)] := by unfold wB; rw [hc, if_pos rfl]
      rw [hB] at hs hlen hlen2
      simp only [List.length_cons, List.length_nil] at hlen hlen2
      generalize hA : wordL (g.t.take j) = A at *
      have e1 : IntKind.i64.wrap ((A.length : Nat) + 1) = ((A.length + 1 : Nat) : Int) := by rw [wr64_id (by unfold I64; omega)]; omega
      have e2 : IntKind.i64.wrap ((A.length : Nat) + 2) = ((A.length + 2 : Nat) : Int) := by rw [wr64_id (by unfold I64; omega)]; omega
      have b0 : byteAt (bs (wordL g.t)) A.length = 37 := by rw [hs]; exact byte_at A 37 _ _ rfl
      have b1 : byteAt (bs (wordL g.t)) (A.length + 1) = ((hexd (g.t[j].toNat / 16)).toNat : Int) := by
        rw [hs, show A ++ ([37, hexd (g.t[j].toNat / 16), hexd (g.t[j].toNat % 16)] ++ wordL (g.t.drop (j + 1))) = (A ++ [37]) ++ hexd (g.t[j].toNat / 16) :: (hexd (g.t[j].toNat % 16) :: wordL (g.t.drop (j + 1))) by simp]
        exact byte_at _ _ _ _ (by simp)
      have b2 : byteAt (bs (wordL g.t)) (A.length + 2) = ((hexd (g.t[j].toNat % 16)).toNat : Int) := by
        rw [hs, show A ++ ([37, hexd (g.t[j].toNat / 16), hexd (g.t[j].toNat % 16)] ++ wordL (g.t.drop (j + 1))) = (A ++ [37, hexd (g.t[j].toNat / 16)]) ++ hexd (g.t[j].toNat % 16) :: wordL (g.t.drop (j + 1)) by simp]
        exact byte_at _ _ _ _ (by simp)
      simp only [ofNat_eq, toNat_cast, Nat.zero_add, Nat.add_zero, Nat.mul_one, List.drop_zero, bCells_len, bCells_drop, bCells_take, bCells_app, bCells_one, bCells_plain, List.length_replicate, List.length_append, List.length_take, List.length_drop, List.take_length, and_true, true_and, and_self, decide_true, List.length_nil, List.length_cons, Nat.sub_zero, dB_mk, dB_ro, List.take_zero, e1, e2, b0, b1, b2, o1, o2, o3, hz, hc]
      have e3 : IntKind.i64.wrap (((A.length + 2 : Nat) : Int) + 1) = ((A.length + 3 : Nat) : Int) := by rw [wr64_id (by unfold I64; omega)]; omega
      have x1 := (hexd (g.t[j].toNat / 16)).toNat_lt
      have x2 := (hexd (g.t[j].toNat % 16)).toNat_lt
      have hmin : min j g.t.length = j := by omega
      simp only [e3, hmin, List.take_take, Nat.min_self]
      repeat' first
        | refine br_dec (by omega) ?_
        | refine br_b rfl ?_
        | refine br_nb (by rw [Bool.not_eq_false', decide_eq_true_eq]; omega) ?_
        | refine br_nb rfl ?_
        | refine And.intro (by omega) ?_
        | refine And.intro ⟨rfl, by omega⟩ ?_
      exact ⟨j + 1, by omega, by omega, by omega, by rw [hlen2], plS, htc⟩
    · have hB : wB g.t[j] = [g.t[j]] := by unfold wB; rw [if_neg hc]
      have hc : codB g.t[j] = false := by simpa using hc
      have h37 : (g.t[j].toNat : Int) ≠ 37 := fun h => by
        have h : g.t[j].toNat = 37 := by omega
        unfold codB at hc; rw [h] at hc; exact absurd hc (by decide)
      rw [hB] at hs hlen hlen2
      simp only [List.length_cons, List.length_nil] at hlen hlen2
      generalize hA : wordL (g.t.take j) = A at *
      have e1 : IntKind.i64.wrap ((A.length : Nat) + 1) = ((A.length + 1 : Nat) : Int) := by rw [wr64_id (by unfold I64; omega)]; omega
      have b0 : byteAt (bs (wordL g.t)) A.length = (g.t[j].toNat : Int) := by rw [hs]; exact byte_at A g.t[j] _ _ rfl
      have hmin : min j g.t.length = j := by omega
      simp only [ofNat_eq, toNat_cast, Nat.zero_add, Nat.add_zero, Nat.mul_one, List.drop_zero, bCells_len, bCells_drop, bCells_take, bCells_app, bCells_one, bCells_plain, List.length_replicate, List.length_append, List.length_take, List.length_drop, List.take_length, and_true, true_and, and_self, decide_true, List.length_nil, List.length_cons, Nat.sub_zero, dB_mk, dB_ro, List.take_zero, e1, b0, hz, hc, hmin, List.take_take, Nat.min_self]
      refine br_dec (by omega) (br_dec (by omega) (br_nb (by simpa using h37) ?_))
      repeat' first
        | refine br_dec (by omega) ?_
        | refine br_b rfl ?_
        | refine br_nb rfl ?_
        | refine And.intro (by omega) ?_
        | refine And.intro ⟨rfl, by omega⟩ ?_
      exact ⟨j + 1, by omega, by omega, by omega, by rw [hlen2], plS, htc⟩
  · have : j = g.t.length := by omega
    subst this
    simp only [List.take_length]
    exact br_if (fun h => absurd h (by omega)) (fun _ => ⟨(), by omega, plS, trivial⟩)
end Go.Proofs.YtnbfhihibgdgpaaGreatDoor.sw
