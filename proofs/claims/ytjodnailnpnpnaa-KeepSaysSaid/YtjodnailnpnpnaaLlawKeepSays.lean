/- The law: max-age alone is enough. -/
import Derived.Test.YtjodnailnpnpnaaSz9
import Derived.Test.YtjodnailnpnpnaaRows
import Derived.Test.YtjodnailnpnpnaaLkpSay
import Derived.Test.YtjodnailnpnpnaaLwit
set_option linter.unusedSimpArgs false
set_option linter.unusedVariables false
namespace Go.Proofs.Ytjodnailnpnpnaa.tk
open Go Go.Ev Go.Sy Go.RowKit Go.Proofs.Ytjodnailnpnpnaa.gl
def BigR (r : Row) : Prop := BigL (decF r.cells)
def dgI (n : Int) : ByteArray := bs (dgL n.toNat)
noncomputable def cSy : FuncId → List Value → List Row → Option (Prop × Value × List Row)
  | 15, [.int .i64 n, .int .i64 lo, .int .i64 hi], [] => some (lo = 200 ∧ hi = 599 ∧ I64 n, .int .i64 (inside n lo hi), [])
  | 16, [.int .i64 n], [] => some (0 ≤ n ∧ n ≤ 1000000000000, .string (dgI n), [])
  | 10, [.agg ⟨[.string m, .string a, .string p, .string x, .slice (some ⟨0, 0, none⟩) n 2, .int .i64 k]⟩, .agg ⟨[.int .i64 st, .slice (some ⟨1, 0, none⟩) n2 2, .int .i64 k2]⟩], [r0, r1] => some (IsF r0 n ∧ IsF r1 n2 ∧ n ≤ maxLen ∧ n2 ≤ maxLen ∧ BigR r0 ∧ BigR r1, .bool (mayR m r0 st r1), [])
  | 3, [], [] => some (True, .bool true, [])
  | _, _, _ => none
def kSy (f : FuncId) : Bool := Nat.beq f 15 || Nat.beq f 16 || Nat.beq f 10 || Nat.beq f 3
noncomputable abbrev ESy : Env := envC Try.prog cSy kSy
theorem Sy_vc (st : Int) (m : ByteArray) (n : Int) : mcall ESy noM 60 5 [.int .i64 st, .string m, .int .u16 n] ⟨mkR (nums 0 []), 0⟩ (retIs 0 (.bool true) []) =
  ((((True ∧ (True ∧ (True ∧ True))) ∧ (True ∧ ((200 : Int) = (200 : Int) ∧ ((599 : Int) = (599 : Int) ∧ I64 st))))) ∧
  ((((True ∧ True) ∧ (True ∧ ((0 : Int) ≤ IntKind.wrap IntKind.i64 n ∧ IntKind.wrap IntKind.i64 n ≤ (1000000000000 : Int))))) ∧
  (br (decide ((8 : Nat) + List.length (Array.toList (ByteArray.data (dgI (IntKind.wrap IntKind.i64 n)))) ≤ (9223372036854775807 : Nat)))
   (((((True ∧ (True ∧ (True ∧ (True ∧ (True ∧ (True ∧ True)))))) ∧ ((True ∧ (((2 : Nat) ≤ (2 : Nat) ∧ Plain [Value.string (ByteArray.mk #[(99 : UInt8), (97 : UInt8), (99 : UInt8), (104 : UInt8), (101 : UInt8), (45 : UInt8), (99 : UInt8), (111 : UInt8), (110 : UInt8), (116 : UInt8), (114 : UInt8), (111 : UInt8), (108 : UInt8)]), Value.string (ByteArray.mk #[(109 : UInt8), (97 : UInt8), (120 : UInt8), (45 : UInt8), (97 : UInt8), (103 : UInt8), (101 : UInt8), (61 : UInt8)] ++ dgI (IntKind.wrap IntKind.i64 n))]) ∧ (True ∧ True))) ∧ True)) ∧ (True ∧ (IsF (Row.mk [] true (Ob.cells true)) (0 : Nat) ∧ (IsF (Row.mk [Value.string (ByteArray.mk #[(99 : UInt8), (97 : UInt8), (99 : UInt8), (104 : UInt8), (101 : UInt8), (45 : UInt8), (99 : UInt8), (111 : UInt8), (110 : UInt8), (116 : UInt8), (114 : UInt8), (111 : UInt8), (108 : UInt8)]), Value.string (ByteArray.mk #[(109 : UInt8), (97 : UInt8), (120 : UInt8), (45 : UInt8), (97 : UInt8), (103 : UInt8), (101 : UInt8), (61 : UInt8)] ++ dgI (IntKind.wrap IntKind.i64 n))] true (Ob.cells true)) (1 : Nat) ∧ ((0 : Nat) ≤ maxLen ∧ ((1 : Nat) ≤ maxLen ∧ (BigR (Row.mk [] true (Ob.cells true)) ∧ BigR (Row.mk [Value.string (ByteArray.mk #[(99 : UInt8), (97 : UInt8), (99 : UInt8), (104 : UInt8), (101 : UInt8), (45 : UInt8), (99 : UInt8), (111 : UInt8), (110 : UInt8), (116 : UInt8), (114 : UInt8), (111 : UInt8), (108 : UInt8)]), Value.string (ByteArray.mk #[(109 : UInt8), (97 : UInt8), (120 : UInt8), (45 : UInt8), (97 : UInt8), (103 : UInt8), (101 : UInt8), (61 : UInt8)] ++ dgI (IntKind.wrap IntKind.i64 n))] true (Ob.cells true)))))))))) ∧
   (br (inside st (200 : Int) (599 : Int) != (206 : Int))
    (br (mayR (ByteArray.mk #[(71 : UInt8), (69 : UInt8), (84 : UInt8)]) (Row.mk [] true (Ob.cells true)) (inside st (200 : Int) (599 : Int)) (Row.mk [Value.string (ByteArray.mk #[(99 : UInt8), (97 : UInt8), (99 : UInt8), (104 : UInt8), (101 : UInt8), (45 : UInt8), (99 : UInt8), (111 : UInt8), (110 : UInt8), (116 : UInt8), (114 : UInt8), (111 : UInt8), (108 : UInt8)]), Value.string (ByteArray.mk #[(109 : UInt8), (97 : UInt8), (120 : UInt8), (45 : UInt8), (97 : UInt8), (103 : UInt8), (101 : UInt8), (61 : UInt8)] ++ dgI (IntKind.wrap IntKind.i64 n))] true (Ob.cells true)) == (inside st (200 : Int) (599 : Int) != (304 : Int)))
     (((((True ∧ (True ∧ (True ∧ (True ∧ (True ∧ (True ∧ True)))))) ∧ ((True ∧ (((2 : Nat) ≤ (2 : Nat) ∧ Plain [Value.string (ByteArray.mk #[(99 : UInt8), (97 : UInt8), (99 : UInt8), (104 : UInt8), (101 : UInt8), (45 : UInt8), (99 : UInt8), (111 : UInt8), (110 : UInt8), (116 : UInt8), (114 : UInt8), (111 : UInt8), (108 : UInt8)]), Value.string (ByteArray.mk #[(109 : UInt8), (97 : UInt8), (120 : UInt8), (45 : UInt8), (97 : UInt8), (103 : UInt8), (101 : UInt8), (61 : UInt8)] ++ dgI (IntKind.wrap IntKind.i64 n))]) ∧ (True ∧ True))) ∧ True)) ∧ (True ∧ (IsF (Row.mk [] true (Ob.cells true)) (0 : Nat) ∧ (IsF (Row.mk [Value.string (ByteArray.mk #[(99 : UInt8), (97 : UInt8), (99 : UInt8), (104 : UInt8), (101 : UInt8), (45 : UInt8), (99 : UInt8), (111 : UInt8), (110 : UInt8), (116 : UInt8), (114 : UInt8), (111 : UInt8), (108 : UInt8)]), Value.string (ByteArray.mk #[(109 : UInt8), (97 : UInt8), (120 : UInt8), (45 : UInt8), (97 : UInt8), (103 : UInt8), (101 : UInt8), (61 : UInt8)] ++ dgI (IntKind.wrap IntKind.i64 n))] true (Ob.cells true)) (1 : Nat) ∧ ((0 : Nat) ≤ maxLen ∧ ((1 : Nat) ≤ maxLen ∧ (BigR (Row.mk [] true (Ob.cells true)) ∧ BigR (Row.mk [Value.string (ByteArray.mk #[(99 : UInt8), (97 : UInt8), (99 : UInt8), (104 : UInt8), (101 : UInt8), (45 : UInt8), (99 : UInt8), (111 : UInt8), (110 : UInt8), (116 : UInt8), (114 : UInt8), (111 : UInt8), (108 : UInt8)]), Value.string (ByteArray.mk #[(109 : UInt8), (97 : UInt8), (120 : UInt8), (45 : UInt8), (97 : UInt8), (103 : UInt8), (101 : UInt8), (61 : UInt8)] ++ dgI (IntKind.wrap IntKind.i64 n))] true (Ob.cells true)))))))))) ∧
     (br (strEq m (ByteArray.mk #[(71 : UInt8), (69 : UInt8), (84 : UInt8)]))
      (br (inside st (200 : Int) (599 : Int) != (206 : Int))
       (br (mayR m (Row.mk [] true (Ob.cells true)) (inside st (200 : Int) (599 : Int)) (Row.mk [Value.string (ByteArray.mk #[(99 : UInt8), (97 : UInt8), (99 : UInt8), (104 : UInt8), (101 : UInt8), (45 : UInt8), (99 : UInt8), (111 : UInt8), (110 : UInt8), (116 : UInt8), (114 : UInt8), (111 : UInt8), (108 : UInt8)]), Value.string (ByteArray.mk #[(109 : UInt8), (97 : UInt8), (120 : UInt8), (45 : UInt8), (97 : UInt8), (103 : UInt8), (101 : UInt8), (61 : UInt8)] ++ dgI (IntKind.wrap IntKind.i64 n))] true (Ob.cells true)) == (inside st (200 : Int) (599 : Int) != (304 : Int)))
        (((True ∧ (True ∧ True))) ∧
        ((true = true) ∧
        True))
        ((true = false) ∧
        True))
       (br (mayR m (Row.mk [] true (Ob.cells true)) (inside st (200 : Int) (599 : Int)) (Row.mk [Value.string (ByteArray.mk #[(99 : UInt8), (97 : UInt8), (99 : UInt8), (104 : UInt8), (101 : UInt8), (45 : UInt8), (99 : UInt8), (111 : UInt8), (110 : UInt8), (116 : UInt8), (114 : UInt8), (111 : UInt8), (108 : UInt8)]), Value.string (ByteArray.mk #[(109 : UInt8), (97 : UInt8), (120 : UInt8), (45 : UInt8), (97 : UInt8), (103 : UInt8), (101 : UInt8), (61 : UInt8)] ++ dgI (IntKind.wrap IntKind.i64 n))] true (Ob.cells true)) == false)
        (((True ∧ (True ∧ True))) ∧
        ((true = true) ∧
        True))
        ((true = false) ∧
        True)))
      (br (mayR m (Row.mk [] true (Ob.cells true)) (inside st (200 : Int) (599 : Int)) (Row.mk [Value.string (ByteArray.mk #[(99 : UInt8), (97 : UInt8), (99 : UInt8), (104 : UInt8), (101 : UInt8), (45 : UInt8), (99 : UInt8), (111 : UInt8), (110 : UInt8), (116 : UInt8), (114 : UInt8), (111 : UInt8), (108 : UInt8)]), Value.string (ByteArray.mk #[(109 : UInt8), (97 : UInt8), (120 : UInt8), (45 : UInt8), (97 : UInt8), (103 : UInt8), (101 : UInt8), (61 : UInt8)] ++ dgI (IntKind.wrap IntKind.i64 n))] true (Ob.cells true)) == false)
       (((True ∧ (True ∧ True))) ∧
       ((true = true) ∧
       True))
       ((true = false) ∧
       True))))
     ((true = false) ∧
     True))
    (br (mayR (ByteArray.mk #[(71 : UInt8), (69 : UInt8), (84 : UInt8)]) (Row.mk [] true (Ob.cells true)) (inside st (200 : Int) (599 : Int)) (Row.mk [Value.string (ByteArray.mk #[(99 : UInt8), (97 : UInt8), (99 : UInt8), (104 : UInt8), (101 : UInt8), (45 : UInt8), (99 : UInt8), (111 : UInt8), (110 : UInt8), (116 : UInt8), (114 : UInt8), (111 : UInt8), (108 : UInt8)]), Value.string (ByteArray.mk #[(109 : UInt8), (97 : UInt8), (120 : UInt8), (45 : UInt8), (97 : UInt8), (103 : UInt8), (101 : UInt8), (61 : UInt8)] ++ dgI (IntKind.wrap IntKind.i64 n))] true (Ob.cells true)) == false)
     (((((True ∧ (True ∧ (True ∧ (True ∧ (True ∧ (True ∧ True)))))) ∧ ((True ∧ (((2 : Nat) ≤ (2 : Nat) ∧ Plain [Value.string (ByteArray.mk #[(99 : UInt8), (97 : UInt8), (99 : UInt8), (104 : UInt8), (101 : UInt8), (45 : UInt8), (99 : UInt8), (111 : UInt8), (110 : UInt8), (116 : UInt8), (114 : UInt8), (111 : UInt8), (108 : UInt8)]), Value.string (ByteArray.mk #[(109 : UInt8), (97 : UInt8), (120 : UInt8), (45 : UInt8), (97 : UInt8), (103 : UInt8), (101 : UInt8), (61 : UInt8)] ++ dgI (IntKind.wrap IntKind.i64 n))]) ∧ (True ∧ True))) ∧ True)) ∧ (True ∧ (IsF (Row.mk [] true (Ob.cells true)) (0 : Nat) ∧ (IsF (Row.mk [Value.string (ByteArray.mk #[(99 : UInt8), (97 : UInt8), (99 : UInt8), (104 : UInt8), (101 : UInt8), (45 : UInt8), (99 : UInt8), (111 : UInt8), (110 : UInt8), (116 : UInt8), (114 : UInt8), (111 : UInt8), (108 : UInt8)]), Value.string (ByteArray.mk #[(109 : UInt8), (97 : UInt8), (120 : UInt8), (45 : UInt8), (97 : UInt8), (103 : UInt8), (101 : UInt8), (61 : UInt8)] ++ dgI (IntKind.wrap IntKind.i64 n))] true (Ob.cells true)) (1 : Nat) ∧ ((0 : Nat) ≤ maxLen ∧ ((1 : Nat) ≤ maxLen ∧ (BigR (Row.mk [] true (Ob.cells true)) ∧ BigR (Row.mk [Value.string (ByteArray.mk #[(99 : UInt8), (97 : UInt8), (99 : UInt8), (104 : UInt8), (101 : UInt8), (45 : UInt8), (99 : UInt8), (111 : UInt8), (110 : UInt8), (116 : UInt8), (114 : UInt8), (111 : UInt8), (108 : UInt8)]), Value.string (ByteArray.mk #[(109 : UInt8), (97 : UInt8), (120 : UInt8), (45 : UInt8), (97 : UInt8), (103 : UInt8), (101 : UInt8), (61 : UInt8)] ++ dgI (IntKind.wrap IntKind.i64 n))] true (Ob.cells true)))))))))) ∧
     (br (strEq m (ByteArray.mk #[(71 : UInt8), (69 : UInt8), (84 : UInt8)]))
      (br (inside st (200 : Int) (599 : Int) != (206 : Int))
       (br (mayR m (Row.mk [] true (Ob.cells true)) (inside st (200 : Int) (599 : Int)) (Row.mk [Value.string (ByteArray.mk #[(99 : UInt8), (97 : UInt8), (99 : UInt8), (104 : UInt8), (101 : UInt8), (45 : UInt8), (99 : UInt8), (111 : UInt8), (110 : UInt8), (116 : UInt8), (114 : UInt8), (111 : UInt8), (108 : UInt8)]), Value.string (ByteArray.mk #[(109 : UInt8), (97 : UInt8), (120 : UInt8), (45 : UInt8), (97 : UInt8), (103 : UInt8), (101 : UInt8), (61 : UInt8)] ++ dgI (IntKind.wrap IntKind.i64 n))] true (Ob.cells true)) == (inside st (200 : Int) (599 : Int) != (304 : Int)))
        (((True ∧ (True ∧ True))) ∧
        ((true = true) ∧
        True))
        ((true = false) ∧
        True))
       (br (mayR m (Row.mk [] true (Ob.cells true)) (inside st (200 : Int) (599 : Int)) (Row.mk [Value.string (ByteArray.mk #[(99 : UInt8), (97 : UInt8), (99 : UInt8), (104 : UInt8), (101 : UInt8), (45 : UInt8), (99 : UInt8), (111 : UInt8), (110 : UInt8), (116 : UInt8), (114 : UInt8), (111 : UInt8), (108 : UInt8)]), Value.string (ByteArray.mk #[(109 : UInt8), (97 : UInt8), (120 : UInt8), (45 : UInt8), (97 : UInt8), (103 : UInt8), (101 : UInt8), (61 : UInt8)] ++ dgI (IntKind.wrap IntKind.i64 n))] true (Ob.cells true)) == false)
        (((True ∧ (True ∧ True))) ∧
        ((true = true) ∧
        True))
        ((true = false) ∧
        True)))
      (br (mayR m (Row.mk [] true (Ob.cells true)) (inside st (200 : Int) (599 : Int)) (Row.mk [Value.string (ByteArray.mk #[(99 : UInt8), (97 : UInt8), (99 : UInt8), (104 : UInt8), (101 : UInt8), (45 : UInt8), (99 : UInt8), (111 : UInt8), (110 : UInt8), (116 : UInt8), (114 : UInt8), (111 : UInt8), (108 : UInt8)]), Value.string (ByteArray.mk #[(109 : UInt8), (97 : UInt8), (120 : UInt8), (45 : UInt8), (97 : UInt8), (103 : UInt8), (101 : UInt8), (61 : UInt8)] ++ dgI (IntKind.wrap IntKind.i64 n))] true (Ob.cells true)) == false)
       (((True ∧ (True ∧ True))) ∧
       ((true = true) ∧
       True))
       ((true = false) ∧
       True))))
     ((true = false) ∧
     True))))
   False))) := by kernel_rfl
theorem cSy_ok : ∀ f a rows p v news, cSy f a rows = some (p, v, news) → p → Con Try.prog f a rows v (rows ++ news) := by
  intro f a rows p v news h hp
  have e : ∀ l, decF (gRo enF l).cells = l := fun l => decF_gC l
  unfold cSy at h
  split at h <;> simp only [Option.some.injEq, Prod.mk.injEq, reduceCtorEq] at h <;> obtain ⟨rfl, rfl, rfl⟩ := h
  · obtain ⟨rfl, rfl, h2⟩ := hp
    exact within_con _ 200 599 h2 (by omega) (by omega) (by omega)
  · rename_i n
    obtain ⟨h1, h2⟩ := hp
    have := Dg_con n.toNat (by omega)
    rw [show ((n.toNat : Nat) : Int) = n by omega] at this
    exact this
  · obtain ⟨⟨l, rfl, rfl⟩, ⟨q, rfl, rfl⟩, h1, h2, h3, h4⟩ := hp
    simp only [BigR, mayR, e, List.append_nil] at h3 h4 ⊢
    exact May_con (L _) (L _) (L _) (L _) _ l _ q _ h1 h2 h3 h4
  · exact con_run mixed (n := 1000000) (by kernel_rfl) (by kernel_rfl)
theorem big_one (nm v : List UInt8) (h : v.length ≤ 1000) : BigL [⟨nm, v⟩] := fun x => by
  unfold allL
  by_cases e : nm = x
  · simp [allS, e]; omega
  · simp [allS, e]
theorem sy_law (st : Int) (m : ByteArray) (n : Int) (hs : I64 st) (hm : m.size ≤ maxLen) (hn : (Lit.int .u16 n).wf = true) :
    Con Try.prog 5 [.int .i64 st, .string m, .int .u16 n] [] (.bool true) [] := by
  have hn : 0 ≤ n ∧ n < 65536 := wf16 hn
  obtain ⟨m, rfl⟩ : ∃ l, m = bs l := ⟨L m, rfl⟩
  refine con_vc (E := ESy) mixed (calls_envC cSy_ok) (lok_envC _ _ _) (M := noM) lm_none (Sy_vc st (bs m) n) ?_
  have e4 : (⟨#[99, 97, 99, 104, 101, 45, 99, 111, 110, 116, 114, 111, 108]⟩ : ByteArray) = bs sCC := rfl
  obtain ⟨k, rfl⟩ : ∃ k : Nat, n = (k : Nat) := ⟨n.toNat, by omega⟩
  obtain ⟨i1, i2⟩ := inside_in st 200 599 (by omega)
  have w : IntKind.i64.wrap (k : Int) = (k : Int) := wr64_id (by unfold I64; omega)
  have e5 : (⟨#[71, 69, 84]⟩ : ByteArray) = bs sGET := rfl
  have hd : (⟨#[109, 97, 120, 45, 97, 103, 101, 61]⟩ : ByteArray) ++ dgI (k : Int) = bs (eqT sMaxAge (dgL k)) := by
    unfold dgI; rw [Int.toNat_natCast, show (⟨#[109, 97, 120, 45, 97, 103, 101, 61]⟩ : ByteArray) = bs (sMaxAge ++ [61]) from rfl, bs_app]; unfold eqT; simp
  have hl : (dgL k).length ≤ 5 := dgL_len k 5 (by omega) (by omega)
  have hL : 8 + (dgI (k : Int)).data.toList.length ≤ 9223372036854775807 := by unfold dgI; rw [Int.toNat_natCast, show (bs (dgL k)).data.toList.length = (dgL k).length from bs_len _]; omega
  have hC : [Value.string (bs sCC), Value.string (bs (eqT sMaxAge (dgL k)))] = gC enF [⟨sCC, eqT sMaxAge (dgL k)⟩] := rfl
  have hM : ∀ m b o st b' o', 200 ≤ st → mayR (bs m) ⟨[], b, o⟩ st ⟨gC enF [⟨sCC, eqT sMaxAge (dgL k)⟩], b', o'⟩ = (decide (m = sGET) && decide (st ≠ 206) && decide (st ≠ 304)) := fun m b o st b' o' h => by
    unfold mayR; simp only; rw [decF_gC, L_bs, show decF [] = [] from rfl]; exact may_ma m st k (by omega) h
  have c1 : IsF ⟨[], true, .cells true⟩ 0 := isF_mk [] 0 rfl
  have c2 : IsF ⟨gC enF [⟨sCC, eqT sMaxAge (dgL k)⟩], true, .cells true⟩ 1 := isF_mk _ _ rfl
  have c3 : (0 ≤ maxLen) = True := by unfold maxLen; simp
  have c4 : (1 ≤ maxLen) = True := by unfold maxLen; simp
  have c5 : BigR ⟨[], true, .cells true⟩ := fun nm => by show (allL (decF []) nm).length ≤ _; rw [show decF [] = [] from rfl]; simp [allL, allS]
  have c6 : BigR ⟨gC enF [⟨sCC, eqT sMaxAge (dgL k)⟩], true, .cells true⟩ := by
    unfold BigR; simp only; rw [decF_gC]
    exact big_one _ _ (by unfold eqT; rw [List.length_append, List.length_cons, show sMaxAge.length = 7 from rfl]; omega)
  have c7 : (2 ≤ 2) = True := by simp
  have c8 : Plain (gC enF [⟨sCC, eqT sMaxAge (dgL k)⟩]) := gC_plain enF_p _
  simp only [ofNat_eq, toNat_cast, Nat.zero_add, Nat.add_zero, Nat.mul_one, List.drop_zero, bCells_len, bCells_drop, bCells_take, bCells_app, bCells_one, bCells_plain, List.length_replicate, List.length_append, List.length_take, List.length_drop, List.take_length, and_true, true_and, and_self, decide_true, List.length_nil, List.length_cons, Nat.sub_zero, dB_mk, dB_ro, List.take_zero, e4, e5, w, hd, hC, hL, c1, c2, c3, c4, c5, c6, c7, c8, strEq_bs, hM _ _ _ _ _ _ i1, true_and, and_true]
  generalize inside st 200 599 = j at *
  refine ⟨hs, by omega, br_dec trivial ?_⟩
  by_cases h1 : j = 206
  · subst h1
    by_cases h3 : m = sGET <;> simp [h3, br_iff]
  · by_cases h2 : j = 304
    · subst h2
      by_cases h3 : m = sGET <;> simp [h3, br_iff]
    · by_cases h3 : m = sGET <;> simp [h1, h2, h3, br_iff]
end Go.Proofs.Ytjodnailnpnpnaa.tk
