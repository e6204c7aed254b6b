/- MessageLengths: a response's content-length is read, if it is one to nine digits; said twice it must be the same. -/
import Derived.Test.YteodlmfnkjdhhaaDoorSz9
import Derived.Test.YteodlmfnkjdhhaaDoorRows
import Derived.Test.YteodlmfnkjdhhaaDoorLmsReqD
import Derived.Test.YteodlmfnkjdhhaaDoorLitT
set_option maxRecDepth 20000
set_option linter.unusedSimpArgs false
set_option linter.unusedVariables false
namespace Go.Proofs.YteodlmfnkjdhhaaDoor.it
open Go Go.Ev Go.Sy Go.RowKit Go.Proofs.YteodlmfnkjdhhaaDoor.gl Go.Proofs.YteodlmfnkjdhhaaDoor.tk
noncomputable def eRunsM : EntM := entC 7 fun a r => match a, r with
  | [], [] => some (True, .bool true, [])
  | _, _ => none
noncomputable def tMl : List EntM := [eIt, eRs, eRunsM]
noncomputable abbrev EtMl : Env := envT Tryd.prog tMl
theorem Ml_vc (a b : Int) (c : Bool) : mcall EtMl noM 60 3 [.int .u32 a, .int .u32 b, .bool c] ⟨mkR (nums 0 []), 0⟩ (retIs 0 (.bool true) []) =
  ((((True /\ True) /\ (True /\ (True /\ I64 (IntKind.wrap IntKind.i64 (Int.tmod a (1000000000 : Int))))))) /\ ((((True /\ True) /\ (True /\ (True /\ I64 (IntKind.wrap
  IntKind.i64 (Int.tmod b (1000000000 : Int))))))) /\ (((((8 <= 8 /\ Plain [Value.string (ByteArray.mk #[58, 115, 116, 97, 116, 117, 115]), Value.string (ByteArray.mk #[50,
  48, 48]), Value.string (ByteArray.mk #[99, 111, 110, 116, 101, 110, 116, 45, 108, 101, 110, 103, 116, 104]), Value.string (itoaB (IntKind.wrap IntKind.i64 (Int.tmod a
  (1000000000 : Int)))), Value.string (ByteArray.mk #[120]), Value.string (ByteArray.mk #[121]), Value.string (ByteArray.mk #[99, 111, 110, 116, 101, 110, 116, 45, 108, 101,
  110, 103, 116, 104]), Value.string (itoaB (IntKind.wrap IntKind.i64 (Int.tmod b (1000000000 : Int))))]) /\ True) /\ ((True /\ True) /\ ((Plain (rsC (Row.mk [Value.string
  (ByteArray.mk #[58, 115, 116, 97, 116, 117, 115]), Value.string (ByteArray.mk #[50, 48, 48]), Value.string (ByteArray.mk #[99, 111, 110, 116, 101, 110, 116, 45, 108, 101,
  110, 103, 116, 104]), Value.string (itoaB (IntKind.wrap IntKind.i64 (Int.tmod a (1000000000 : Int)))), Value.string (ByteArray.mk #[120]), Value.string (ByteArray.mk
  #[121]), Value.string (ByteArray.mk #[99, 111, 110, 116, 101, 110, 116, 45, 108, 101, 110, 103, 116, 104]), Value.string (itoaB (IntKind.wrap IntKind.i64 (Int.tmod b
  (1000000000 : Int))))] true (Ob.cells true))) /\ True) /\ (IsF (Row.mk [Value.string (ByteArray.mk #[58, 115, 116, 97, 116, 117, 115]), Value.string (ByteArray.mk #[50,
  48, 48]), Value.string (ByteArray.mk #[99, 111, 110, 116, 101, 110, 116, 45, 108, 101, 110, 103, 116, 104]), Value.string (itoaB (IntKind.wrap IntKind.i64 (Int.tmod a
  (1000000000 : Int)))), Value.string (ByteArray.mk #[120]), Value.string (ByteArray.mk #[121]), Value.string (ByteArray.mk #[99, 111, 110, 116, 101, 110, 116, 45, 108, 101,
  110, 103, 116, 104]), Value.string (itoaB (IntKind.wrap IntKind.i64 (Int.tmod b (1000000000 : Int))))] true (Ob.cells true)) 4 /\ (4 <= 16777000 /\ ShR (Row.mk
  [Value.string (ByteArray.mk #[58, 115, 116, 97, 116, 117, 115]), Value.string (ByteArray.mk #[50, 48, 48]), Value.string (ByteArray.mk #[99, 111, 110, 116, 101, 110, 116,
  45, 108, 101, 110, 103, 116, 104]), Value.string (itoaB (IntKind.wrap IntKind.i64 (Int.tmod a (1000000000 : Int)))), Value.string (ByteArray.mk #[120]), Value.string
  (ByteArray.mk #[121]), Value.string (ByteArray.mk #[99, 111, 110, 116, 101, 110, 116, 45, 108, 101, 110, 103, 116, 104]), Value.string (itoaB (IntKind.wrap IntKind.i64
  (Int.tmod b (1000000000 : Int))))] true (Ob.cells true)))))))) /\ (((((6 <= 8 /\ Plain [Value.string (ByteArray.mk #[58, 115, 116, 97, 116, 117, 115]), Value.string
  (ByteArray.mk #[50, 48, 48]), Value.string (ByteArray.mk #[99, 111, 110, 116, 101, 110, 116, 45, 108, 101, 110, 103, 116, 104]), Value.string (itoaB (IntKind.wrap
  IntKind.i64 (Int.tmod a (1000000000 : Int)))), Value.string (ByteArray.mk #[120]), Value.string (ByteArray.mk #[121])]) /\ True) /\ ((True /\ True) /\ ((Plain (rsC (Row.mk
  [Value.string (ByteArray.mk #[58, 115, 116, 97, 116, 117, 115]), Value.string (ByteArray.mk #[50, 48, 48]), Value.string (ByteArray.mk #[99, 111, 110, 116, 101, 110, 116,
  45, 108, 101, 110, 103, 116, 104]), Value.string (itoaB (IntKind.wrap IntKind.i64 (Int.tmod a (1000000000 : Int)))), Value.string (ByteArray.mk #[120]), Value.string
  (ByteArray.mk #[121])] true (Ob.cells true))) /\ True) /\ (IsF (Row.mk [Value.string (ByteArray.mk #[58, 115, 116, 97, 116, 117, 115]), Value.string (ByteArray.mk #[50,
  48, 48]), Value.string (ByteArray.mk #[99, 111, 110, 116, 101, 110, 116, 45, 108, 101, 110, 103, 116, 104]), Value.string (itoaB (IntKind.wrap IntKind.i64 (Int.tmod a
  (1000000000 : Int)))), Value.string (ByteArray.mk #[120]), Value.string (ByteArray.mk #[121])] true (Ob.cells true)) 3 /\ (Int.toNat (3 : Int) - Int.toNat (↑0 : Int) <=
  16777000 /\ ShR (Row.mk [Value.string (ByteArray.mk #[58, 115, 116, 97, 116, 117, 115]), Value.string (ByteArray.mk #[50, 48, 48]), Value.string (ByteArray.mk #[99, 111,
  110, 116, 101, 110, 116, 45, 108, 101, 110, 103, 116, 104]), Value.string (itoaB (IntKind.wrap IntKind.i64 (Int.tmod a (1000000000 : Int)))), Value.string (ByteArray.mk
  #[120]), Value.string (ByteArray.mk #[121])] true (Ob.cells true)))))))) /\ ((((True /\ True) /\ (True /\ (True /\ I64 (IntKind.wrap IntKind.i64 (Int.tmod a (1000000000 :
  Int))))))) /\ (br (decide (10 + List.length (Array.toList (ByteArray.data (itoaB (IntKind.wrap IntKind.i64 (Int.tmod a (1000000000 : Int)))))) <= 9223372036854775807))
  (((((4 <= 4 /\ Plain [Value.string (ByteArray.mk #[58, 115, 116, 97, 116, 117, 115]), Value.string (ByteArray.mk #[50, 48, 48]), Value.string (ByteArray.mk #[99, 111, 110,
  116, 101, 110, 116, 45, 108, 101, 110, 103, 116, 104]), Value.string (ByteArray.mk #[49, 48, 48, 48, 48, 48, 48, 48, 48, 48] ++ itoaB (IntKind.wrap IntKind.i64 (Int.tmod a
  (1000000000 : Int))))]) /\ True) /\ ((True /\ True) /\ ((Plain (rsC (Row.mk [Value.string (ByteArray.mk #[58, 115, 116, 97, 116, 117, 115]), Value.string (ByteArray.mk
  #[50, 48, 48]), Value.string (ByteArray.mk #[99, 111, 110, 116, 101, 110, 116, 45, 108, 101, 110, 103, 116, 104]), Value.string (ByteArray.mk #[49, 48, 48, 48, 48, 48, 48,
  48, 48, 48] ++ itoaB (IntKind.wrap IntKind.i64 (Int.tmod a (1000000000 : Int))))] true (Ob.cells true))) /\ True) /\ (IsF (Row.mk [Value.string (ByteArray.mk #[58, 115,
  116, 97, 116, 117, 115]), Value.string (ByteArray.mk #[50, 48, 48]), Value.string (ByteArray.mk #[99, 111, 110, 116, 101, 110, 116, 45, 108, 101, 110, 103, 116, 104]),
  Value.string (ByteArray.mk #[49, 48, 48, 48, 48, 48, 48, 48, 48, 48] ++ itoaB (IntKind.wrap IntKind.i64 (Int.tmod a (1000000000 : Int))))] true (Ob.cells true)) 2 /\ (2 <=
  16777000 /\ ShR (Row.mk [Value.string (ByteArray.mk #[58, 115, 116, 97, 116, 117, 115]), Value.string (ByteArray.mk #[50, 48, 48]), Value.string (ByteArray.mk #[99, 111,
  110, 116, 101, 110, 116, 45, 108, 101, 110, 103, 116, 104]), Value.string (ByteArray.mk #[49, 48, 48, 48, 48, 48, 48, 48, 48, 48] ++ itoaB (IntKind.wrap IntKind.i64
  (Int.tmod a (1000000000 : Int))))] true (Ob.cells true)))))))) /\ ((Value.agg (Array.mk [Value.string (ByteArray.mk #[58, 115, 116, 97, 116, 117, 115]), Value.string
  (ByteArray.mk #[50, 48, 48])]) = Value.agg (Array.mk [Value.string (ByteArray.mk #[58, 115, 116, 97, 116, 117, 115]), Value.string (ByteArray.mk #[50, 48, 48])])) /\
  ((Value.agg (Array.mk [Value.string (ByteArray.mk #[58, 115, 116, 97, 116, 117, 115]), Value.string (ByteArray.mk #[50, 48, 48])]) = Value.agg (Array.mk [Value.string
  (ByteArray.mk #[58, 115, 116, 97, 116, 117, 115]), Value.string (ByteArray.mk #[50, 48, 48])])) /\ ((Value.agg (Array.mk [Value.string (ByteArray.mk #[58, 115, 116, 97,
  116, 117, 115]), Value.string (ByteArray.mk #[50, 48, 48])]) = Value.agg (Array.mk [Value.string (ByteArray.mk #[58, 115, 116, 97, 116, 117, 115]), Value.string
  (ByteArray.mk #[50, 48, 48])])) /\ (((((2 <= 8 /\ Plain [Value.string (ByteArray.mk #[58, 115, 116, 97, 116, 117, 115]), Value.string (ByteArray.mk #[50, 48, 48])]) /\
  True) /\ ((True /\ True) /\ ((Plain [] /\ True) /\ (IsF (Row.mk [Value.string (ByteArray.mk #[58, 115, 116, 97, 116, 117, 115]), Value.string (ByteArray.mk #[50, 48, 48])]
  true (Ob.cells true)) 1 /\ (Int.toNat (1 : Int) - Int.toNat (↑0 : Int) <= 16777000 /\ ShR (Row.mk [Value.string (ByteArray.mk #[58, 115, 116, 97, 116, 117, 115]),
  Value.string (ByteArray.mk #[50, 48, 48])] true (Ob.cells true)))))))) /\ (br (rsB (Row.mk [Value.string (ByteArray.mk #[58, 115, 116, 97, 116, 117, 115]), Value.string
  (ByteArray.mk #[50, 48, 48]), Value.string (ByteArray.mk #[99, 111, 110, 116, 101, 110, 116, 45, 108, 101, 110, 103, 116, 104]), Value.string (itoaB (IntKind.wrap
  IntKind.i64 (Int.tmod a (1000000000 : Int)))), Value.string (ByteArray.mk #[120]), Value.string (ByteArray.mk #[121]), Value.string (ByteArray.mk #[99, 111, 110, 116, 101,
  110, 116, 45, 108, 101, 110, 103, 116, 104]), Value.string (itoaB (IntKind.wrap IntKind.i64 (Int.tmod b (1000000000 : Int))))] true (Ob.cells true)) == (IntKind.wrap
  IntKind.i64 (Int.tmod a (1000000000 : Int)) == IntKind.wrap IntKind.i64 (Int.tmod b (1000000000 : Int)))) (br (!rsB (Row.mk [Value.string (ByteArray.mk #[58, 115, 116, 97,
  116, 117, 115]), Value.string (ByteArray.mk #[50, 48, 48]), Value.string (ByteArray.mk #[99, 111, 110, 116, 101, 110, 116, 45, 108, 101, 110, 103, 116, 104]), Value.string
  (itoaB (IntKind.wrap IntKind.i64 (Int.tmod a (1000000000 : Int)))), Value.string (ByteArray.mk #[120]), Value.string (ByteArray.mk #[121]), Value.string (ByteArray.mk
  #[99, 111, 110, 116, 101, 110, 116, 45, 108, 101, 110, 103, 116, 104]), Value.string (itoaB (IntKind.wrap IntKind.i64 (Int.tmod b (1000000000 : Int))))] true (Ob.cells
  true))) (br (rsB (Row.mk [Value.string (ByteArray.mk #[58, 115, 116, 97, 116, 117, 115]), Value.string (ByteArray.mk #[50, 48, 48]), Value.string (ByteArray.mk #[99, 111,
  110, 116, 101, 110, 116, 45, 108, 101, 110, 103, 116, 104]), Value.string (itoaB (IntKind.wrap IntKind.i64 (Int.tmod a (1000000000 : Int)))), Value.string (ByteArray.mk
  #[120]), Value.string (ByteArray.mk #[121])] true (Ob.cells true))) (br (rsK (Row.mk [Value.string (ByteArray.mk #[58, 115, 116, 97, 116, 117, 115]), Value.string
  (ByteArray.mk #[50, 48, 48]), Value.string (ByteArray.mk #[99, 111, 110, 116, 101, 110, 116, 45, 108, 101, 110, 103, 116, 104]), Value.string (itoaB (IntKind.wrap
  IntKind.i64 (Int.tmod a (1000000000 : Int)))), Value.string (ByteArray.mk #[120]), Value.string (ByteArray.mk #[121])] true (Ob.cells true)) == IntKind.wrap IntKind.i64
  (Int.tmod a (1000000000 : Int))) (br (!rsB (Row.mk [Value.string (ByteArray.mk #[58, 115, 116, 97, 116, 117, 115]), Value.string (ByteArray.mk #[50, 48, 48]), Value.string
  (ByteArray.mk #[99, 111, 110, 116, 101, 110, 116, 45, 108, 101, 110, 103, 116, 104]), Value.string (ByteArray.mk #[49, 48, 48, 48, 48, 48, 48, 48, 48, 48] ++ itoaB
  (IntKind.wrap IntKind.i64 (Int.tmod a (1000000000 : Int))))] true (Ob.cells true))) (((True /\ (True /\ (True /\ True)))) /\ ((true = true) /\ True)) ((true = false) /\
  True)) ((true = false) /\ True)) ((true = false) /\ True)) (br (rsK (Row.mk [Value.string (ByteArray.mk #[58, 115, 116, 97, 116, 117, 115]), Value.string (ByteArray.mk
  #[50, 48, 48]), Value.string (ByteArray.mk #[99, 111, 110, 116, 101, 110, 116, 45, 108, 101, 110, 103, 116, 104]), Value.string (itoaB (IntKind.wrap IntKind.i64 (Int.tmod
  a (1000000000 : Int)))), Value.string (ByteArray.mk #[120]), Value.string (ByteArray.mk #[121]), Value.string (ByteArray.mk #[99, 111, 110, 116, 101, 110, 116, 45, 108,
  101, 110, 103, 116, 104]), Value.string (itoaB (IntKind.wrap IntKind.i64 (Int.tmod b (1000000000 : Int))))] true (Ob.cells true)) == IntKind.wrap IntKind.i64 (Int.tmod a
  (1000000000 : Int))) (br (rsB (Row.mk [Value.string (ByteArray.mk #[58, 115, 116, 97, 116, 117, 115]), Value.string (ByteArray.mk #[50, 48, 48]), Value.string
  (ByteArray.mk #[99, 111, 110, 116, 101, 110, 116, 45, 108, 101, 110, 103, 116, 104]), Value.string (itoaB (IntKind.wrap IntKind.i64 (Int.tmod a (1000000000 : Int)))),
  Value.string (ByteArray.mk #[120]), Value.string (ByteArray.mk #[121])] true (Ob.cells true))) (br (rsK (Row.mk [Value.string (ByteArray.mk #[58, 115, 116, 97, 116, 117,
  115]), Value.string (ByteArray.mk #[50, 48, 48]), Value.string (ByteArray.mk #[99, 111, 110, 116, 101, 110, 116, 45, 108, 101, 110, 103, 116, 104]), Value.string (itoaB
  (IntKind.wrap IntKind.i64 (Int.tmod a (1000000000 : Int)))), Value.string (ByteArray.mk #[120]), Value.string (ByteArray.mk #[121])] true (Ob.cells true)) == IntKind.wrap
  IntKind.i64 (Int.tmod a (1000000000 : Int))) (br (!rsB (Row.mk [Value.string (ByteArray.mk #[58, 115, 116, 97, 116, 117, 115]), Value.string (ByteArray.mk #[50, 48, 48]),
  Value.string (ByteArray.mk #[99, 111, 110, 116, 101, 110, 116, 45, 108, 101, 110, 103, 116, 104]), Value.string (ByteArray.mk #[49, 48, 48, 48, 48, 48, 48, 48, 48, 48] ++
  itoaB (IntKind.wrap IntKind.i64 (Int.tmod a (1000000000 : Int))))] true (Ob.cells true))) (((True /\ (True /\ (True /\ True)))) /\ ((true = true) /\ True)) ((true = false)
  /\ True)) ((true = false) /\ True)) ((true = false) /\ True)) ((true = false) /\ True))) ((true = false) /\ True))))))) False)))))) := by kernel_rfl
theorem eRunsM_ok : EntOk Tryd.prog eRunsM := entC_ok (by
  intro a rows p v news h hp
  split at h <;> simp only [Option.some.injEq, Prod.mk.injEq, reduceCtorEq] at h
  obtain ⟨rfl, rfl, rfl⟩ := h
  exact con_run mixed (n := 1000000) (by kernel_rfl) (by kernel_rfl))
theorem tMl_ok : ∀ x ∈ tMl, EntOk Tryd.prog x := all_cons eIt_ok (all_cons eRs_ok (all_cons eRunsM_ok (all_nil)))
theorem m_rsC (l : List Fl) (b : Bool) (o : Ob) : rsC ⟨gC enF l, b, o⟩ = gC enF (rsZ (rsL l)).f := by unfold rsC; simp only; rw [decF_gC]
theorem m_rsB (l : List Fl) (b : Bool) (o : Ob) : rsB ⟨gC enF l, b, o⟩ = (rsL l).isSome := by unfold rsB; simp only; rw [decF_gC]
theorem m_rsK (l : List Fl) (b : Bool) (o : Ob) : rsK ⟨gC enF l, b, o⟩ = (rsZ (rsL l)).k := by unfold rsK; simp only; rw [decF_gC]
theorem m_rsN (l : List Fl) (b : Bool) (o : Ob) : rsN ⟨gC enF l, b, o⟩ = (rsZ (rsL l)).f.length := by unfold rsN; simp only; rw [decF_gC]
theorem m_rsS (l : List Fl) (b : Bool) (o : Ob) : rsS ⟨gC enF l, b, o⟩ = (rsZ (rsL l)).st := by unfold rsS; simp only; rw [decF_gC]
def fS : Fl := ⟨sSta, [50, 48, 48]⟩
def fX : Fl := ⟨[120], [121]⟩
def fC (d : List UInt8) : Fl := ⟨sCLen, d⟩
def oneZ : List UInt8 := [49, 48, 48, 48, 48, 48, 48, 48, 48, 48]
theorem r4 (d e : List UInt8) : ([.string ⟨#[58, 115, 116, 97, 116, 117, 115]⟩, .string ⟨#[50, 48, 48]⟩, .string ⟨#[99, 111, 110, 116, 101, 110, 116, 45, 108, 101, 110, 103, 116, 104]⟩, .string (bs d), .string ⟨#[120]⟩, .string ⟨#[121]⟩, .string ⟨#[99, 111, 110, 116, 101, 110, 116, 45, 108, 101, 110, 103, 116, 104]⟩, .string (bs e)] : List Value) = gC enF [fS, fC d, fX, fC e] := rfl
theorem r3 (d : List UInt8) : ([.string ⟨#[58, 115, 116, 97, 116, 117, 115]⟩, .string ⟨#[50, 48, 48]⟩, .string ⟨#[99, 111, 110, 116, 101, 110, 116, 45, 108, 101, 110, 103, 116, 104]⟩, .string (bs d), .string ⟨#[120]⟩, .string ⟨#[121]⟩] : List Value) = gC enF [fS, fC d, fX] := rfl
theorem r2 (d : List UInt8) : ([.string ⟨#[58, 115, 116, 97, 116, 117, 115]⟩, .string ⟨#[50, 48, 48]⟩, .string ⟨#[99, 111, 110, 116, 101, 110, 116, 45, 108, 101, 110, 103, 116, 104]⟩, .string (⟨#[49, 48, 48, 48, 48, 48, 48, 48, 48, 48]⟩ ++ bs d)] : List Value) = gC enF [fS, fC (oneZ ++ d)] := by
  have : (⟨#[49, 48, 48, 48, 48, 48, 48, 48, 48, 48]⟩ : ByteArray) ++ bs d = bs (oneZ ++ d) := bs_app oneZ d
  rw [this]; rfl
theorem r1 : ([.string ⟨#[58, 115, 116, 97, 116, 117, 115]⟩, .string ⟨#[50, 48, 48]⟩] : List Value) = gC enF [fS] := rfl
theorem mod_nat (a : Int) (h : 0 ≤ a) : ∃ m : Nat, m < 1000000000 ∧ IntKind.i64.wrap (a.tmod 1000000000) = (m : Int) := by
  refine ⟨(a % 1000000000).toNat, by omega, ?_⟩
  rw [Int.tmod_eq_emod_of_nonneg h, wr64_id (by unfold I64; omega)]; omega
theorem ito_nat (m : Nat) : itoaB (m : Int) = bs (Lib.decDigits m) := by
  rw [z_itoa]; unfold Lib.itoa; rw [if_neg (by omega), Int.toNat_natCast]; rfl
theorem plF_c {d : List UInt8} (h : valL d = true) : plF (fC d) = true := by
  show (tokL sCLen && (decide (lowerL sCLen = sCLen) && (valL d && (!ocL sCLen && !(decide (sCLen = sTe) && !decide (d = sTrail)))))) = true
  rw [h, show tokL sCLen = true from by decide, show decide (lowerL sCLen = sCLen) = true from by decide, show ocL sCLen = false from by decide, show decide (sCLen = sTe) = false from by decide]
  rfl
theorem lenG_c (k : Int) (x : List UInt8) (l : List Fl) : lenG k (fC x :: l) = (match digL x 1 9 with | none => -2 | some m => if k ≠ -1 ∧ (m : Int) ≠ k then -2 else lenG m l) := by
  rw [lenG, if_pos (show (fC x).n = sCLen from rfl)]; rfl
theorem lenG_x (k : Int) (l : List Fl) : lenG k (fX :: l) = lenG k l := by rw [lenG, if_neg (by decide)]
theorem rsL_s (r : List Fl) : rsL (fS :: r) = if (plL r && !decide (lenL r = -2)) = true then some ⟨200, lenL r, r⟩ else none := by
  rw [rsL, if_pos (show fS.n = sSta from rfl), show digL fS.v 3 3 = some 200 from by decide]
  simp only [show stOk 200 = true from by decide, Bool.true_and]
  rfl
theorem plF_x : plF fX = true := by decide
theorem u32_nn {a : Int} (h : (Lit.int .u32 a).wf = true) : 0 ≤ a := by
  have hz : 0 ≤ a ∧ a ≤ 4294967295 := by simpa [Lit.wf, IntKind.min, IntKind.max, IntKind.signed, IntKind.bits] using h
  exact hz.1
theorem ml_law (a b : Int) (c : Bool) (ha : (Lit.int .u32 a).wf = true) (hb : (Lit.int .u32 b).wf = true) : Con Tryd.prog 3 [.int .u32 a, .int .u32 b, .bool c] [] (.bool true) [] := by
  refine con_vc (E := EtMl) mixed (calls_envT tMl_ok) (lok_envT _ _) (M := noM) lm_none (Ml_vc a b c) ?_
  obtain ⟨m, m1, m2⟩ := mod_nat a (u32_nn ha)
  obtain ⟨n, n1, n2⟩ := mod_nat b (u32_nn hb)
  simp only [m2, n2, ito_nat]
  have lm := dec_len 8 m m1
  have ln := dec_len 8 n n1
  have vm := val_dg (dec_all m m (Nat.le_refl _)) (fun e => by rw [e] at lm; simp at lm)
  have vn := val_dg (dec_all n n (Nat.le_refl _)) (fun e => by rw [e] at ln; simp at ln)
  have dm := dec_dig m m (Nat.le_refl _)
  have dn := dec_dig n n (Nat.le_refl _)
  generalize Lib.decDigits m = d at *
  generalize Lib.decDigits n = e at *
  have gm : digL d 1 9 = some m := by unfold digL; rw [if_pos ⟨lm.1, lm.2⟩, dm]
  have gn : digL e 1 9 = some n := by unfold digL; rw [if_pos ⟨ln.1, ln.2⟩, dn]
  have gx : digL (oneZ ++ d) 1 9 = none := by unfold digL; rw [if_neg (by simp [oneZ])]
  have L4 : lenL [fC d, fX, fC e] = if n = m then (m : Int) else -2 := by
    unfold lenL
    rw [lenG_c, gm]
    simp only
    rw [if_neg (by simp), lenG_x, lenG_c, gn]
    simp only [lenG]
    by_cases h : n = m
    · subst h; simp
    · rw [if_pos ⟨by omega, by omega⟩, if_neg h]
  have L3 : lenL [fC d, fX] = m := by
    unfold lenL
    rw [lenG_c, gm]
    simp only
    rw [if_neg (by simp), lenG_x, lenG]
  have L2 : lenL [fC (oneZ ++ d)] = -2 := by
    unfold lenL
    rw [lenG_c, gx]
  have p4 : plL [fC d, fX, fC e] = true := by simp [plL, plF_c vm, plF_c vn, plF_x]
  have p3 : plL [fC d, fX] = true := by simp [plL, plF_c vm, plF_x]
  have q4 : rsL [fS, fC d, fX, fC e] = if n = m then some ⟨200, m, [fC d, fX, fC e]⟩ else none := by
    rw [rsL_s, L4, p4]
    by_cases h : n = m
    · rw [if_pos h, if_pos h, if_pos (by simp)]
    · rw [if_neg h, if_neg h, if_neg (by simp)]
  have q3 : rsL [fS, fC d, fX] = some ⟨200, m, [fC d, fX]⟩ := by
    rw [rsL_s, L3, p3, if_pos (by simp)]
  have q2 : rsL [fS, fC (oneZ ++ d)] = none := by
    rw [rsL_s, L2, if_neg (by simp)]
  have s1 : (fS.n.length ≤ 1048576 ∧ fS.v.length ≤ 1048576) := by decide
  have sx : (fX.n.length ≤ 1048576 ∧ fX.v.length ≤ 1048576) := by decide
  have sc : ∀ x : List UInt8, x.length ≤ 20 → ((fC x).n.length ≤ 1048576 ∧ (fC x).v.length ≤ 1048576) := fun x hx => ⟨by show sCLen.length ≤ _; decide, by show x.length ≤ _; omega⟩
  have h4 : ShortF [fS, fC d, fX, fC e] := by intro f hf; simp only [List.mem_cons, List.not_mem_nil, or_false] at hf; rcases hf with rfl | rfl | rfl | rfl <;> first | exact s1 | exact sx | exact sc _ (by omega)
  have h3 : ShortF [fS, fC d, fX] := by intro f hf; simp only [List.mem_cons, List.not_mem_nil, or_false] at hf; rcases hf with rfl | rfl | rfl <;> first | exact s1 | exact sx | exact sc _ (by omega)
  have h2 : ShortF [fS, fC (oneZ ++ d)] := by intro f hf; simp only [List.mem_cons, List.not_mem_nil, or_false] at hf; rcases hf with rfl | rfl <;> first | exact s1 | exact sc _ (by simp [oneZ]; omega)
  have h1 : ShortF [fS] := by intro f hf; simp only [List.mem_cons, List.not_mem_nil, or_false] at hf; subst hf; exact s1
  have i4 : IsF ⟨gC enF [fS, fC d, fX, fC e], true, .cells true⟩ 4 := ⟨_, rfl, rfl⟩
  have i3 : IsF ⟨gC enF [fS, fC d, fX], true, .cells true⟩ 3 := ⟨_, rfl, rfl⟩
  have i2 : IsF ⟨gC enF [fS, fC (oneZ ++ d)], true, .cells true⟩ 2 := ⟨_, rfl, rfl⟩
  have i1 : IsF ⟨gC enF [fS], true, .cells true⟩ 1 := ⟨_, rfl, rfl⟩
  have im : I64 (m : Int) := by unfold I64; omega
  have in' : I64 (n : Int) := by unfold I64; omega
  simp only [r4, r3, r2, r1, fPl, n_sh, h4, h3, h2, h1, i4, i3, i2, i1, im, in', m_rsC, m_rsB, m_rsK, m_rsN, m_rsS, q4, q3, q2, true_and, and_true]
  have hl : (bs d).data.toList.length = d.length := rfl
  have pn : Plain [] := fun v hv => by simp at hv
  refine ⟨⟨by decide, by decide⟩, ⟨by decide, by decide⟩, br_dec (by rw [hl]; omega) ⟨⟨by decide, by decide⟩, ⟨by decide, pn, by decide⟩, ?_⟩⟩
  by_cases h : n = m
  · subst h
    simp [br_iff, rsZ]
  · have h2 : ¬ (m : Int) = (n : Int) := by omega
    simp [br_iff, rsZ, h, h2]
end Go.Proofs.YteodlmfnkjdhhaaDoor.it
