/- The law: s-maxage goes ahead of max-age, this ahead of expires, and it ahead of a share. -/
import Derived.Test.YtideeogedleabaaSz9
import Derived.Test.YtideeogedleabaaRows
import Derived.Test.YtideeogedleabaaLfrB
import Derived.Test.YtideeogedleabaaLlgtK
import Derived.Test.YtideeogedleabaaLwit
import Derived.Test.YtideeogedleabaaLwgF
import Derived.Test.YtideeogedleabaaLsay19
set_option maxRecDepth 20000
set_option linter.unusedSimpArgs false
set_option linter.unusedVariables false
namespace Go.Proofs.Ytideeogedleabaa.tk
open Go Go.Ev Go.Sy Go.RowKit Go.Proofs.Ytideeogedleabaa.gl
theorem ba_ex (s : ByteArray) : ∃ v : ByteArray, v = s := ⟨s, rfl⟩
noncomputable def shZ (n : Int) : ByteArray := Classical.choose (ba_ex (shS n))
noncomputable def dgZ (n : Int) : ByteArray := Classical.choose (ba_ex (bs (dgL n.toNat)))
noncomputable def eRuns : EntM := entC 3 fun a r => match a, r with
  | [], [] => some (True, .bool true, [])
  | _, _ => none
noncomputable def eShw : EntM := entC 20 fun a r => match a, r with
  | [.int .i64 n], [] => some (True, .string (shZ n), [])
  | _, _ => none
noncomputable def eDg : EntM := entC 21 fun a r => match a, r with
  | [.int .i64 n], [] => some (0 ≤ n ∧ n ≤ 1000000000000, .string (dgZ n), [])
  | _, _ => none
noncomputable def tFs : List EntM := [eRuns, eShw, eDg, eLi]
noncomputable abbrev EtFs : Env := envT Try.prog tFs
theorem Ff_vc (a b c d : Nat) (sh : Nat) : mcall EtFs noM 60 8 [.int .u16 (a : Nat), .int .u16 (b : Nat), .int .u16 (c : Nat), .int .u16 (d : Nat), .float .f64 sh] ⟨mkR (nums 0 []), 0⟩ (retIs 0 (.bool true) []) =
  let z6 := (ByteArray.mk #[108, 97, 115, 116, 45, 109, 111, 100, 105, 102, 105, 101, 100]); let z5 := (shZ (IntKind.wrap IntKind.i64 ((784111777 : Int) - IntKind.wrap
  IntKind.i64 (↑d : Int)))); let z10 := (ByteArray.mk #[101, 120, 112, 105, 114, 101, 115]); let z7 := (shZ (IntKind.wrap IntKind.i64 ((784111777 : Int) + IntKind.wrap
  IntKind.i64 (↑c : Int)))); let z8 := (ByteArray.mk #[99, 97, 99, 104, 101, 45, 99, 111, 110, 116, 114, 111, 108]); let z9 := (ByteArray.mk #[109, 97, 120, 45, 97, 103,
  101, 61] ++ dgZ (IntKind.wrap IntKind.i64 (↑b : Int))); let z1 := (Row.mk [Value.string (ByteArray.mk #[100, 97, 116, 101]), Value.string (shZ (784111777 : Int)),
  Value.string z6, Value.string z5, Value.string z10, Value.string z7, Value.string z8, Value.string z9, Value.string z8, Value.string (ByteArray.mk #[115, 45, 109, 97, 120,
  97, 103, 101, 61] ++ dgZ (IntKind.wrap IntKind.i64 (↑a : Int)))] true (Ob.cells true)); let z2 := (Row.mk [Value.string (ByteArray.mk #[100, 97, 116, 101]), Value.string
  (shZ (784111777 : Int)), Value.string z6, Value.string z5, Value.string z10, Value.string z7, Value.string z8, Value.string z9] true (Ob.cells true)); let z3 := (Row.mk
  [Value.string (ByteArray.mk #[100, 97, 116, 101]), Value.string (shZ (784111777 : Int)), Value.string z6, Value.string z5, Value.string z10, Value.string z7] true
  (Ob.cells true)); let z4 := (Row.mk [Value.string (ByteArray.mk #[100, 97, 116, 101]), Value.string (shZ (784111777 : Int)), Value.string z6, Value.string z5] true
  (Ob.cells true)); ((((True /\ True) /\ (True /\ (True /\ True)))) /\ ((((True /\ True) /\ (True /\ (True /\ True)))) /\ (((((True /\ (True /\ (True /\ (True /\ (True /\
  (True /\ (True /\ ((4 <= 4 /\ Plain [Value.string (ByteArray.mk #[100, 97, 116, 101]), Value.string (shZ (784111777 : Int)), Value.string z6, Value.string z5]) /\ (True /\
  (True /\ (True /\ (True /\ True)))))))))))) /\ (True /\ True)) /\ ((True /\ (True /\ True)) /\ (True /\ (IsF (Row.mk [] true (Ob.cells true)) 0 /\ (IsF z4 2 /\ (0 <=
  maxLen /\ (2 <= maxLen /\ BgR z4)))))))) /\ ((((True /\ True) /\ (True /\ (True /\ True)))) /\ (((((True /\ (True /\ (True /\ (True /\ (True /\ (True /\ (True /\ ((6 <= 6
  /\ Plain [Value.string (ByteArray.mk #[100, 97, 116, 101]), Value.string (shZ (784111777 : Int)), Value.string z6, Value.string z5, Value.string z10, Value.string z7]) /\
  (True /\ (True /\ (True /\ (True /\ True)))))))))))) /\ (True /\ True)) /\ ((True /\ (True /\ True)) /\ (True /\ (IsF (Row.mk [] true (Ob.cells true)) 0 /\ (IsF z3 3 /\ (0
  <= maxLen /\ (2 + 1 <= maxLen /\ BgR z3)))))))) /\ ((((True /\ True) /\ (True /\ (True /\ ((0 : Int) <= IntKind.wrap IntKind.i64 (↑b : Int) /\ IntKind.wrap IntKind.i64 (↑b
  : Int) <= (1000000000000 : Int)))))) /\ (br (decide (8 + List.length (Array.toList (ByteArray.data (dgZ (IntKind.wrap IntKind.i64 (↑b : Int))))) <= 9223372036854775807))
  (((((True /\ (True /\ (True /\ (True /\ (True /\ (True /\ (True /\ ((8 <= 8 /\ Plain [Value.string (ByteArray.mk #[100, 97, 116, 101]), Value.string (shZ (784111777 :
  Int)), Value.string z6, Value.string z5, Value.string z10, Value.string z7, Value.string z8, Value.string z9]) /\ (True /\ (True /\ (True /\ (True /\ True)))))))))))) /\
  (True /\ True)) /\ ((True /\ (True /\ True)) /\ (True /\ (IsF (Row.mk [] true (Ob.cells true)) 0 /\ (IsF z2 4 /\ (0 <= maxLen /\ (2 + 1 + 1 <= maxLen /\ BgR z2)))))))) /\
  ((((True /\ True) /\ (True /\ (True /\ ((0 : Int) <= IntKind.wrap IntKind.i64 (↑a : Int) /\ IntKind.wrap IntKind.i64 (↑a : Int) <= (1000000000000 : Int)))))) /\ (br
  (decide (9 + List.length (Array.toList (ByteArray.data (dgZ (IntKind.wrap IntKind.i64 (↑a : Int))))) <= 9223372036854775807)) (((((True /\ (True /\ (True /\ (True /\ (True
  /\ (True /\ (True /\ ((10 <= 10 /\ Plain [Value.string (ByteArray.mk #[100, 97, 116, 101]), Value.string (shZ (784111777 : Int)), Value.string z6, Value.string z5,
  Value.string z10, Value.string z7, Value.string z8, Value.string z9, Value.string z8, Value.string (ByteArray.mk #[115, 45, 109, 97, 120, 97, 103, 101, 61] ++ dgZ
  (IntKind.wrap IntKind.i64 (↑a : Int)))]) /\ (True /\ (True /\ (True /\ (True /\ True)))))))))))) /\ (True /\ True)) /\ ((True /\ (True /\ True)) /\ (True /\ (IsF (Row.mk
  [] true (Ob.cells true)) 0 /\ (IsF z1 5 /\ (0 <= maxLen /\ (2 + 1 + 1 + 1 <= maxLen /\ BgR z1)))))))) /\ (br (lifeR z4 (0 : Int) (200 : Int) 4607182418800017408 ==
  IntKind.wrap IntKind.i64 (↑d : Int)) (br (lifeR z3 (0 : Int) (200 : Int) sh == IntKind.wrap IntKind.i64 (↑c : Int)) (br (lifeR z2 (0 : Int) (200 : Int) sh == IntKind.wrap
  IntKind.i64 (↑b : Int)) (br (lifeR z1 (0 : Int) (200 : Int) sh == IntKind.wrap IntKind.i64 (↑a : Int)) (((True /\ (True /\ (True /\ True)))) /\ ((true = true) /\ True))
  ((true = false) /\ True)) ((true = false) /\ True)) ((true = false) /\ True)) ((true = false) /\ True))) False))) False))))))) := by kernel_rfl
theorem z_shZ (n : Int) : shZ n = shS n := Classical.choose_spec (ba_ex _)
theorem z_dgZ (n : Nat) : dgZ (n : Nat) = bs (dgL n) := by
  have := Classical.choose_spec (ba_ex (bs (dgL (n : Int).toNat)))
  rw [Int.toNat_natCast] at this; exact this
theorem eRuns_ok : EntOk Try.prog eRuns := entC_ok (by
  intro a rows p v news h hp
  split at h <;> simp only [Option.some.injEq, Prod.mk.injEq, reduceCtorEq] at h
  obtain ⟨rfl, rfl, rfl⟩ := h
  exact con_run mixed (n := 1000000) (by kernel_rfl) (by kernel_rfl))
theorem eShw_ok : EntOk Try.prog eShw := entC_ok (by
  intro a rows p v news h hp
  split at h <;> simp only [Option.some.injEq, Prod.mk.injEq, reduceCtorEq] at h
  obtain ⟨rfl, rfl, rfl⟩ := h
  rw [z_shZ]
  exact Sh_con2 _)
theorem eDg_ok : EntOk Try.prog eDg := entC_ok (by
  intro a rows p v news h hp
  split at h <;> simp only [Option.some.injEq, Prod.mk.injEq, reduceCtorEq] at h
  obtain ⟨rfl, rfl, rfl⟩ := h
  rename_i n
  obtain ⟨h1, h2⟩ := hp
  have := Dg_con n.toNat (by omega)
  have e := z_dgZ n.toNat
  rw [show ((n.toNat : Nat) : Int) = n by omega] at this e
  rw [e]
  exact this)
theorem eLi_ok : EntOk Try.prog eLi := entC_ok (by
  intro a rows p v news h hp
  split at h <;> simp only [Option.some.injEq, Prod.mk.injEq, reduceCtorEq] at h
  obtain ⟨rfl, rfl, rfl⟩ := h
  obtain ⟨⟨d, rfl, rfl⟩, ⟨l, rfl, rfl⟩, h1, h2, h3⟩ := hp
  simp only [z_lifeR, BgR, dF0, List.append_nil] at h3 ⊢
  exact li_con ⟨_, _, _, _, _, _, _, _, _, _⟩ d l _ h1 h2 h3)
theorem tFs_ok : ∀ x ∈ tFs, EntOk Try.prog x := all_cons eRuns_ok (all_cons eShw_ok (all_cons eDg_ok (all_cons eLi_ok (all_nil))))
def fA2 (T U : List UInt8) : List Fl := [⟨sDate, T⟩, ⟨sLast, U⟩]
def fA3 (T U X : List UInt8) : List Fl := [⟨sDate, T⟩, ⟨sLast, U⟩, ⟨sExp, X⟩]
def fA4 (T U X M : List UInt8) : List Fl := [⟨sDate, T⟩, ⟨sLast, U⟩, ⟨sExp, X⟩, ⟨sCC, M⟩]
def fA5 (T U X M S : List UInt8) : List Fl := [⟨sDate, T⟩, ⟨sLast, U⟩, ⟨sExp, X⟩, ⟨sCC, M⟩, ⟨sCC, S⟩]
theorem nm_ne : (sDate = sLast) = False ∧ (sDate = sExp) = False ∧ (sDate = sCC) = False ∧ (sLast = sDate) = False ∧ (sLast = sExp) = False ∧ (sLast = sCC) = False ∧ (sExp = sDate) = False ∧ (sExp = sLast) = False ∧ (sExp = sCC) = False ∧ (sCC = sDate) = False ∧ (sCC = sLast) = False ∧ (sCC = sExp) = False := by decide
theorem pairs_all {l m : List Fl} {nm : List UInt8} (h : allL l nm = allL m nm) : pairsL l nm = pairsL m nm := by unfold pairsL; rw [h]
theorem ctl_all {l m : List Fl} (h : allL l sCC = allL m sCC) : ctlL l = ctlL m := by unfold ctlL; rw [pairs_all h]
theorem ctl_a2 (T U : List UInt8) : ctlL (fA2 T U) = c0 := by
  have : ctlL (fA2 T U) = ctlL [] := ctl_all (by simp [fA2, allL, allS, nm_ne])
  rw [this]; rfl
theorem ctl_a3 (T U X : List UInt8) : ctlL (fA3 T U X) = c0 := by
  have : ctlL (fA3 T U X) = ctlL [] := ctl_all (by simp [fA3, allL, allS, nm_ne])
  rw [this]; rfl
theorem ctl_a4 (T U X : List UInt8) (b : Nat) (hb : b ≤ 2147483647) : ctlL (fA4 T U X (eqT sMaxAge (dgL b))) = ctMa b := by
  rw [← ct_ma b hb]
  exact ctl_all (by simp [fA4, allL, allS, nm_ne])
theorem ctl_a5 (T U X : List UInt8) (a b : Nat) (ha : a ≤ 2147483647) (hb : b ≤ 2147483647) : (ctlL (fA5 T U X (eqT sMaxAge (dgL b)) (eqT sShared (dgL a)))).sh = a := by
  have h : ctlL (fA5 T U X (eqT sMaxAge (dgL b)) (eqT sShared (dgL a))) = ctlL ([⟨sCC, eqT sMaxAge (dgL b)⟩] ++ [⟨sCC, eqT sShared (dgL a)⟩]) := ctl_all (by simp [fA5, allL, allS, nm_ne])
  have o1 := ok_eq sMaxAge (dgL b) (by decide) (dg_all _ (dgL_in b)).1
  have o2 := ok_eq sShared (dgL a) (by decide) (dg_all _ (dgL_in a)).1
  obtain ⟨_, _, _, _, _, _, _, j8, _, _⟩ := ctl_join (pairsL [⟨sCC, eqT sMaxAge (dgL b)⟩] sCC) (pairsL [⟨sCC, eqT sShared (dgL a)⟩] sCC)
  rw [h, ctlL_app _ _ o1 o2, j8]
  show comb (ctlL [⟨sCC, eqT sMaxAge (dgL b)⟩]).sh (ctlL [⟨sCC, eqT sShared (dgL a)⟩]).sh = _
  rw [ct_ma b hb, ct_sh a ha]; rfl
theorem life_a2 (T U : List UInt8) (n d : Nat) (hn : n ≤ 2000000000) (hd : d ≤ n) (hT : rdL T = some n) (hU : rdL U = some (n - d)) : lifeL (fA2 T U) 0 200 4607182418800017408 = d := by
  have e1 : dtO (fA2 T U) sDate = some n := by simp [dtO, fA2, allN, allL, allS, nm_ne, hT]
  have e2 : dtO (fA2 T U) sLast = some (n - d) := by simp [dtO, fA2, allN, allL, allS, nm_ne, hU]
  have e3 : allN sExp (fA2 T U) = 0 := by simp [fA2, allN, nm_ne]
  have e4 : orL (fA2 T U) 0 = n := by unfold orL; rw [e1]; rfl
  have c1 : Go.Proofs.Ytideeogedleabaa.fl.cl 4607182418800017408 = Go.Proofs.Ytideeogedleabaa.fl.one := Go.Proofs.Ytideeogedleabaa.fl.cl_one
  unfold lifeL
  rw [ctl_a2, e2, e3, e4]
  rw [if_neg (by decide), if_neg (by decide), if_neg (by omega), if_pos ⟨rfl, by simp only [dtJ]; omega, by decide⟩, c1]
  have : Go.Proofs.Ytideeogedleabaa.fl.lim ((n : Int) - dtJ (some (n - d))) = d := by unfold Go.Proofs.Ytideeogedleabaa.fl.lim; simp only [dtJ]; omega
  rw [this, Go.Proofs.Ytideeogedleabaa.fl.shr_one _ (by omega) (by omega)]
theorem life_a3 (T U X : List UInt8) (n c sh : Nat) (hT : rdL T = some n) (hX : rdL X = some (n + c)) : lifeL (fA3 T U X) 0 200 sh = c := by
  have e1 : dtO (fA3 T U X) sDate = some n := by simp [dtO, fA3, allN, allL, allS, nm_ne, hT]
  have e2 : dtO (fA3 T U X) sExp = some (n + c) := by simp [dtO, fA3, allN, allL, allS, nm_ne, hX]
  have e3 : allN sExp (fA3 T U X) = 1 := by simp [fA3, allN, nm_ne]
  have e4 : orL (fA3 T U X) 0 = n := by unfold orL; rw [e1]; rfl
  unfold lifeL
  rw [ctl_a3, e2, e3, e4]
  rw [if_neg (by decide), if_neg (by decide), if_pos (by omega), if_pos (show (some (n + c)).isSome = true from rfl)]
  simp only [dtJ]; omega
theorem life_a4 (T U X : List UInt8) (b sh : Nat) (hb : b ≤ 2147483647) : lifeL (fA4 T U X (eqT sMaxAge (dgL b))) 0 200 sh = b := by
  unfold lifeL
  rw [ctl_a4 T U X b hb]
  rw [if_neg (by simp [ctMa]), if_pos (by simp [ctMa])]; rfl
theorem life_a5 (T U X : List UInt8) (a b sh : Nat) (ha : a ≤ 2147483647) (hb : b ≤ 2147483647) : lifeL (fA5 T U X (eqT sMaxAge (dgL b)) (eqT sShared (dgL a))) 0 200 sh = a := by
  unfold lifeL
  rw [ctl_a5 T U X a b ha hb, if_pos (by omega)]
theorem sh_nat (n : Nat) (h : n ≤ 2147483647) : shZ (n : Int) = bs (shL n) := by
  rw [z_shZ]; unfold shS
  have : shN (n : Int) = n := by unfold shN; omega
  rw [this]
theorem big_f (l : List Fl) (h : ∀ f ∈ l, f.n.length ≤ 100 ∧ f.v.length ≤ 100) (hl : l.length ≤ 10) : BgL l := fun nm => by
  have h1 := allL_le l nm
  have h2 : ∀ m : List Fl, (∀ f ∈ m, f.n.length ≤ 100 ∧ f.v.length ≤ 100) → lgN m ≤ 201 * m.length := by
    intro m
    induction m with
    | nil => intro _; simp [lgN]
    | cons f m ih =>
      intro hm
      have := ih (fun g hg => hm g (List.mem_cons_of_mem _ hg))
      have h3 := hm f List.mem_cons_self
      rw [lgN, List.length_cons]; unfold fOn; omega
  have h3 := h2 l h
  omega
theorem bgR_mk (l : List Fl) (b : Bool) (o : Ob) (h : BgL l) : BgR ⟨gC enF l, b, o⟩ := by unfold BgR; simp only; rw [decF_gC]; exact h
theorem ff_law (a b c d : Int) (sh : Nat) (ha : (Lit.int .u16 a).wf = true) (hb : (Lit.int .u16 b).wf = true) (hc : (Lit.int .u16 c).wf = true) (hd : (Lit.int .u16 d).wf = true) :
    Con Try.prog 8 [.int .u16 a, .int .u16 b, .int .u16 c, .int .u16 d, .float .f64 sh] [] (.bool true) [] := by
  have ha := wf16 ha
  have hb := wf16 hb
  have hc := wf16 hc
  have hd := wf16 hd
  obtain ⟨a, rfl⟩ : ∃ k : Nat, a = (k : Nat) := ⟨a.toNat, by omega⟩
  obtain ⟨b, rfl⟩ : ∃ k : Nat, b = (k : Nat) := ⟨b.toNat, by omega⟩
  obtain ⟨c, rfl⟩ : ∃ k : Nat, c = (k : Nat) := ⟨c.toNat, by omega⟩
  obtain ⟨d, rfl⟩ : ∃ k : Nat, d = (k : Nat) := ⟨d.toNat, by omega⟩
  refine con_vc (E := EtFs) mixed (calls_envT tFs_ok) (lok_envT _ _) (M := noM) lm_none (Ff_vc a b c d sh) ?_
  have hm : maxLen = 9223372036854775807 := by unfold maxLen; rfl
  simp only [ofNat_eq, toNat_cast, Nat.zero_add, Nat.add_zero, Nat.mul_one, List.drop_zero, bCells_len, bCells_drop, bCells_take, bCells_app, bCells_one, bCells_plain, List.length_replicate, List.length_append, List.length_take, List.length_drop, List.take_length, and_true, true_and, and_self, decide_true, List.length_nil, List.length_cons, Nat.sub_zero, dB_mk, dB_ro, List.take_zero, fPl, fLen, fTake, z_lifeR]
  have w : ∀ k : Nat, k < 65536 → IntKind.i64.wrap (k : Int) = (k : Int) := fun k hk => wr64_id (by unfold I64; omega)
  have e1 : IntKind.i64.wrap (784111777 - (d : Int)) = ((784111777 - d : Nat) : Int) := by rw [wr64_id (by unfold I64; omega)]; omega
  have e2 : IntKind.i64.wrap (784111777 + (c : Int)) = ((784111777 + c : Nat) : Int) := by rw [wr64_id (by unfold I64; omega)]; omega
  have e3 : shZ 784111777 = bs (shL 784111777) := sh_nat 784111777 (by omega)
  have d1 : (⟨#[109, 97, 120, 45, 97, 103, 101, 61]⟩ : ByteArray) ++ bs (dgL b) = bs (eqT sMaxAge (dgL b)) := by
    rw [show (⟨#[109, 97, 120, 45, 97, 103, 101, 61]⟩ : ByteArray) = bs (sMaxAge ++ [61]) from rfl, bs_app]; unfold eqT; simp
  have d2 : (⟨#[115, 45, 109, 97, 120, 97, 103, 101, 61]⟩ : ByteArray) ++ bs (dgL a) = bs (eqT sShared (dgL a)) := by
    rw [show (⟨#[115, 45, 109, 97, 120, 97, 103, 101, 61]⟩ : ByteArray) = bs (sShared ++ [61]) from rfl, bs_app]; unfold eqT; simp
  have la := dgL_len a 5 (by omega) (by omega)
  have lb := dgL_len b 5 (by omega) (by omega)
  have ba : (bs (dgL a)).data.toList.length = (dgL a).length := bs_len _
  have bb : (bs (dgL b)).data.toList.length = (dgL b).length := bs_len _
  simp only [w a (by omega), w b (by omega), w c (by omega), w d (by omega)]
  simp only [e1, e2, e3, sh_nat (784111777 - d) (by omega), sh_nat (784111777 + c) (by omega), z_dgZ, ba, bb, d1, d2]
  have lT := shL_len 784111777
  have lU := shL_len (784111777 - d)
  have lX := shL_len (784111777 + c)
  have hT := rd_sh 784111777 (by omega)
  have hU := rd_sh (784111777 - d) (by omega)
  have hX := rd_sh (784111777 + c) (by omega)
  generalize shL 784111777 = T at *
  generalize shL (784111777 - d) = U at *
  generalize shL (784111777 + c) = X at *
  have g2 : [Value.string ⟨#[100, 97, 116, 101]⟩, Value.string (bs T), Value.string ⟨#[108, 97, 115, 116, 45, 109, 111, 100, 105, 102, 105, 101, 100]⟩, Value.string (bs U)] = gC enF (fA2 T U) := rfl
  have g3 : [Value.string ⟨#[100, 97, 116, 101]⟩, Value.string (bs T), Value.string ⟨#[108, 97, 115, 116, 45, 109, 111, 100, 105, 102, 105, 101, 100]⟩, Value.string (bs U), Value.string ⟨#[101, 120, 112, 105, 114, 101, 115]⟩, Value.string (bs X)] = gC enF (fA3 T U X) := rfl
  have g4 : ∀ M, [Value.string ⟨#[100, 97, 116, 101]⟩, Value.string (bs T), Value.string ⟨#[108, 97, 115, 116, 45, 109, 111, 100, 105, 102, 105, 101, 100]⟩, Value.string (bs U), Value.string ⟨#[101, 120, 112, 105, 114, 101, 115]⟩, Value.string (bs X), Value.string ⟨#[99, 97, 99, 104, 101, 45, 99, 111, 110, 116, 114, 111, 108]⟩, Value.string (bs M)] = gC enF (fA4 T U X M) := fun M => rfl
  have g5 : ∀ M S, [Value.string ⟨#[100, 97, 116, 101]⟩, Value.string (bs T), Value.string ⟨#[108, 97, 115, 116, 45, 109, 111, 100, 105, 102, 105, 101, 100]⟩, Value.string (bs U), Value.string ⟨#[101, 120, 112, 105, 114, 101, 115]⟩, Value.string (bs X), Value.string ⟨#[99, 97, 99, 104, 101, 45, 99, 111, 110, 116, 114, 111, 108]⟩, Value.string (bs M), Value.string ⟨#[99, 97, 99, 104, 101, 45, 99, 111, 110, 116, 114, 111, 108]⟩, Value.string (bs S)] = gC enF (fA5 T U X M S) := fun M S => rfl
  simp only [g2, g3, g4, g5, decF_gC, fPl]
  have lM : (eqT sMaxAge (dgL b)).length ≤ 100 := by unfold eqT; rw [List.length_append, List.length_cons]; have h20 := (by decide : sMaxAge.length ≤ 20); omega
  have lS : (eqT sShared (dgL a)).length ≤ 100 := by unfold eqT; rw [List.length_append, List.length_cons]; have h20 := (by decide : sShared.length ≤ 20); omega
  have q1 : sDate.length ≤ 100 ∧ sLast.length ≤ 100 ∧ sExp.length ≤ 100 ∧ sCC.length ≤ 100 := by decide
  have i0 : IsF ⟨[], true, .cells true⟩ 0 := isF_mk [] _ rfl
  have b2 : BgR ⟨gC enF (fA2 T U), true, .cells true⟩ := bgR_mk _ _ _ (big_f _ (by intro f hf; simp only [fA2, List.mem_cons, List.not_mem_nil, or_false] at hf; rcases hf with rfl | rfl <;> simp only <;> omega) (by simp [fA2]))
  have b3 : BgR ⟨gC enF (fA3 T U X), true, .cells true⟩ := bgR_mk _ _ _ (big_f _ (by intro f hf; simp only [fA3, List.mem_cons, List.not_mem_nil, or_false] at hf; rcases hf with rfl | rfl | rfl <;> simp only <;> omega) (by simp [fA3]))
  have b4 : BgR ⟨gC enF (fA4 T U X (eqT sMaxAge (dgL b))), true, .cells true⟩ := bgR_mk _ _ _ (big_f _ (by intro f hf; simp only [fA4, List.mem_cons, List.not_mem_nil, or_false] at hf; rcases hf with rfl | rfl | rfl | rfl <;> simp only <;> omega) (by simp [fA4]))
  have b5 : BgR ⟨gC enF (fA5 T U X (eqT sMaxAge (dgL b)) (eqT sShared (dgL a))), true, .cells true⟩ := bgR_mk _ _ _ (big_f _ (by intro f hf; simp only [fA5, List.mem_cons, List.not_mem_nil, or_false] at hf; rcases hf with rfl | rfl | rfl | rfl | rfl <;> simp only <;> omega) (by simp [fA5]))
  rw [life_a2 T U 784111777 d (by omega) (by omega) hT hU, life_a3 T U X 784111777 c sh hT hX, life_a4 T U X b sh (by omega), life_a5 T U X a b sh (by omega) (by omega)]
  refine ⟨⟨⟨Nat.le_refl _, trivial⟩, i0, isF_mk _ _ rfl, by omega, by omega, b2⟩, ⟨⟨Nat.le_refl _, trivial⟩, i0, isF_mk _ _ rfl, by omega, by omega, b3⟩, ⟨by omega, by omega⟩, br_dec (by omega) ⟨⟨⟨Nat.le_refl _, trivial⟩, i0, isF_mk _ _ rfl, by omega, by omega, b4⟩, ⟨by omega, by omega⟩, br_dec (by omega) ⟨⟨⟨Nat.le_refl _, trivial⟩, i0, isF_mk _ _ rfl, by omega, by omega, b5⟩, br_b (by simp) (br_b (by simp) (br_b (by simp) (br_b (by simp) trivial)))⟩⟩⟩
end Go.Proofs.Ytideeogedleabaa.tk
