/- The law: a number's digits are it. -/
import Derived.Test.YtdbeebannnofpaaSz9
import Derived.Test.YtdbeebannnofpaaRows
import Derived.Test.YtdbeebannnofpaaLdg16
import Derived.Test.YtdbeebannnofpaaLctSec
import Derived.Test.YtdbeebannnofpaaLwit
set_option linter.unusedSimpArgs false
set_option linter.unusedVariables false
namespace Go.Proofs.Ytdbeebannnofpaa.tk
open Go Go.Ev Go.Sy Go.RowKit Go.Proofs.Ytdbeebannnofpaa.gl
noncomputable def cNu : FuncId → List Value → List Row → Option (Prop × Value × List Row)
  | 9, [.string s], [] => some ((L s).length ≤ maxLen, .int .i64 (secS s), [])
  | 20, [.int .i64 n, .int .i64 lo, .int .i64 hi], [] => some (I64 n ∧ lo = 0 ∧ 0 ≤ hi ∧ hi ≤ 1000000000000, .int .i64 (inside n lo hi), [])
  | 3, [], [] => some (True, .bool true, [])
  | _, _, _ => none
def kNu (f : FuncId) : Bool := Nat.beq f 9 || Nat.beq f 20 || Nat.beq f 3
noncomputable abbrev ENu : Env := envC Try.prog cNu kNu
structure GNu where
  n : Nat
  no : Int
  at_ : Int
  c : UInt8
def pN1 : List Nat := [0, 0, 1, 1, 1]
def slN1 (g : GNu) (s : StDg) : List (Nat × Value) := [(0, .int .u32 (g.n : Nat)), (1, .int .i64 g.no), (2, .int .i64 g.at_), (3, bVal g.c), (9, .string (bs s.s)), (10, .int .i64 (s.n : Nat))]
def wsN1 (g : GNu) : List (Gate StDg) := [⟨.exit 0, fun s => s.s = dgL g.n, fun s => [(0, .int .u32 (g.n : Nat)), (1, .int .i64 g.no), (2, .int .i64 g.at_), (3, bVal g.c), (9, .string (bs s.s))], fun _ => [], 0⟩]
def specN1 : Sy.Spec := specOf 0 0 77 (fun g : GNu => g.n ≤ 1000000000000) (fun g => slN1 g ⟨g.n, []⟩) (fun _ => []) wsN1
def pN2 : List Nat := [0, 1, 0, 1, 1, 1, 1]
structure StN2 where
  i : Int
  j : Nat
def nuT (j n : Nat) : List UInt8 := List.replicate j 48 ++ dgL n
def slN2 (g : GNu) (s : StN2) : List (Nat × Value) := [(0, .int .u32 (g.n : Nat)), (2, .int .i64 g.at_), (3, bVal g.c), (9, .string (bs (nuT s.j g.n))), (11, .int .i64 s.i)]
def wsN2 (g : GNu) : List (Gate Nat) := [⟨.exit 2, fun j => j ≤ 30, fun j => [(0, .int .u32 (g.n : Nat)), (2, .int .i64 g.at_), (3, bVal g.c), (9, .string (bs (nuT j g.n)))], fun _ => [], 0⟩]
def specN2 : Sy.Spec := specOf 0 0 77 (fun g : GNu => g.n ≤ 1000000000000 ∧ g.no < 30) (fun g => slN2 g ⟨g.no, 0⟩) (fun _ => []) wsN2
def mNu := mOf [(6, pN1, specN1), (6, pN2, specN2)]
theorem N1_round (g : GNu) (s : StDg) (Inv : StDg → Prop) (m : StDg → Nat) : mev ENu noM 60 6 (0 :: pN1) false (codeOf Try.prog 6 (0 :: pN1)) ⟨mkOv (slN1 g s), 77, []⟩ none ⟨mkR [], 0⟩ (roundK 0 0 77 Inv m (slN1 g) (fun _ => []) (wsN1 g) s) =
  (br (decide ((↑s.1 : Int) > (0 : Int)))
   (br (decide ((1 : Nat) + List.length (Array.toList (ByteArray.data (bs s.2))) ≤ (9223372036854775807 : Nat)))
    (∃ j : StDg, ((Inv j) ∧
    ((m j < m s) ∧
    (((↑g.1 : Int) = (↑g.1 : Int)) ∧
    ((g.2 = g.2) ∧
    ((g.3 = g.3) ∧
    (((↑(UInt8.toNat (GNu.c g)) : Int) = (↑(UInt8.toNat (GNu.c g)) : Int)) ∧
    ((bs j.2 = ByteArray.mk #[UInt8.ofNat (Int.toNat (IntKind.wrap IntKind.u8 (IntKind.wrap IntKind.i64 ((48 : Int) + Int.tmod (↑(StDg.n s) : Int) (10 : Int)))))] ++ bs s.2) ∧
    (((↑j.1 : Int) = IntKind.wrap IntKind.i64 (Int.tdiv (↑s.1 : Int) (10 : Int))) ∧
    True)))))))))
    False)
   (br (strEq (bs s.2) (ByteArray.mk #[]))
    (br (decide ((1 : Nat) + List.length (Array.toList (ByteArray.data (bs s.2))) ≤ (9223372036854775807 : Nat)))
     (∃ j : StDg, ((Inv j) ∧
     ((m j < m s) ∧
     (((↑g.1 : Int) = (↑g.1 : Int)) ∧
     ((g.2 = g.2) ∧
     ((g.3 = g.3) ∧
     (((↑(UInt8.toNat (GNu.c g)) : Int) = (↑(UInt8.toNat (GNu.c g)) : Int)) ∧
     ((bs j.2 = ByteArray.mk #[UInt8.ofNat (Int.toNat (IntKind.wrap IntKind.u8 (IntKind.wrap IntKind.i64 ((48 : Int) + Int.tmod (↑(StDg.n s) : Int) (10 : Int)))))] ++ bs s.2) ∧
     (((↑j.1 : Int) = IntKind.wrap IntKind.i64 (Int.tdiv (↑s.1 : Int) (10 : Int))) ∧
     True)))))))))
     False)
    (∃ y : StDg, ((Eq (α := List UInt8) (y.2) (dgL g.1)) ∧
    (((↑g.1 : Int) = (↑g.1 : Int)) ∧
    ((g.2 = g.2) ∧
    ((g.3 = g.3) ∧
    (((↑(UInt8.toNat (GNu.c g)) : Int) = (↑(UInt8.toNat (GNu.c g)) : Int)) ∧
    ((bs y.2 = bs s.2) ∧
    True))))))))) := by kernel_rfl
theorem N2_round (g : GNu) (s : StN2) (Inv : StN2 → Prop) (m : StN2 → Nat) : mev ENu noM 60 6 (0 :: pN2) false (codeOf Try.prog 6 (0 :: pN2)) ⟨mkOv (slN2 g s), 77, []⟩ none ⟨mkR [], 0⟩ (roundK 0 0 77 Inv m (slN2 g) (fun _ => []) (wsN2 g) s) =
  (br (decide (s.1 > (0 : Int)))
   (br (decide ((1 : Nat) + List.length (Array.toList (ByteArray.data (bs (nuT s.2 g.1)))) ≤ (9223372036854775807 : Nat)))
    (∃ j : StN2, ((Inv j) ∧
    ((m j < m s) ∧
    (((↑g.1 : Int) = (↑g.1 : Int)) ∧
    ((g.3 = g.3) ∧
    (((↑(UInt8.toNat (GNu.c g)) : Int) = (↑(UInt8.toNat (GNu.c g)) : Int)) ∧
    ((bs (nuT j.2 g.1) = ByteArray.mk #[(48 : UInt8)] ++ bs (nuT s.2 g.1)) ∧
    ((j.1 = IntKind.wrap IntKind.i64 (s.1 - (1 : Int))) ∧
    True))))))))
    False)
   (∃ y : Nat, ((y ≤ (30 : Nat)) ∧
   (((↑g.1 : Int) = (↑g.1 : Int)) ∧
   ((g.3 = g.3) ∧
   (((↑(UInt8.toNat (GNu.c g)) : Int) = (↑(UInt8.toNat (GNu.c g)) : Int)) ∧
   ((bs (nuT y g.1) = bs (nuT s.2 g.1)) ∧
   True))))))) := by kernel_rfl
theorem Nu_vc (n : Int) (no at_ : Int) (c : UInt8) : mcall ENu mNu 60 6 [.int .u32 n, .int .i64 no, .int .i64 at_, bVal c] ⟨mkR (nums 0 []), 0⟩ (retIs 0 (.bool true) []) =
  (∃ g : GNu, ((g.1 ≤ (1000000000000 : Nat)) ∧
  (((↑g.1 : Int) = n) ∧
  ((g.2 = no) ∧
  ((g.3 = at_) ∧
  (((↑(UInt8.toNat (GNu.c g)) : Int) = (↑(UInt8.toNat c) : Int)) ∧
  ((bs [] = ByteArray.mk #[]) ∧
  (((↑g.1 : Int) = IntKind.wrap IntKind.i64 n) ∧
  (∀ (y : StDg), ((y.2 = dgL g.1) →
  (∃ g2 : GNu, ((g2.1 ≤ (1000000000000 : Nat) ∧ g2.2 < (30 : Int)) ∧
  (((↑g2.1 : Int) = (↑g.1 : Int)) ∧
  ((g2.3 = g.3) ∧
  (((↑(UInt8.toNat (GNu.c g2)) : Int) = (↑(UInt8.toNat (GNu.c g)) : Int)) ∧
  ((bs (nuT (0 : Nat) g2.1) = bs y.2) ∧
  ((g2.2 = Int.tmod g.2 (30 : Int)) ∧
  (∀ (y2 : Nat), ((y2 ≤ (30 : Nat)) →
  ((((True ∧ (True ∧ (True ∧ True))) ∧ (True ∧ (I64 g2.3 ∧ ((0 : Int) = (0 : Int) ∧ ((0 : Int) ≤ Int.ofNat (List.length (Array.toList (ByteArray.data (bs (nuT y2 g2.1))))) ∧ Int.ofNat (List.length (Array.toList (ByteArray.data (bs (nuT y2 g2.1))))) ≤ (1000000000000 : Int))))))) ∧
  (br (decide ((0 : Int) ≤ (↑(0 : Nat) : Int) ∧ (0 : Int) ≤ inside g2.3 (0 : Int) (Int.ofNat (List.length (Array.toList (ByteArray.data (bs (nuT y2 g2.1)))))) ∧ inside g2.3 (0 : Int) (Int.ofNat (List.length (Array.toList (ByteArray.data (bs (nuT y2 g2.1)))))) ≤ (↑(List.length (Array.toList (ByteArray.data (bs (nuT y2 g2.1))))) : Int)))
   (br (decide (List.length (Array.toList (ByteArray.data (sub (bs (nuT y2 g2.1)) (0 : Nat) (Int.toNat (inside g2.3 (0 : Int) (Int.ofNat (List.length (Array.toList (ByteArray.data (bs (nuT y2 g2.1))))))))))) + (1 : Nat) ≤ (9223372036854775807 : Nat)))
    (br (decide ((0 : Int) ≤ inside g2.3 (0 : Int) (Int.ofNat (List.length (Array.toList (ByteArray.data (bs (nuT y2 g2.1)))))) ∧ inside g2.3 (0 : Int) (Int.ofNat (List.length (Array.toList (ByteArray.data (bs (nuT y2 g2.1)))))) ≤ (↑(List.length (Array.toList (ByteArray.data (bs (nuT y2 g2.1))))) : Int) ∧ (↑(List.length (Array.toList (ByteArray.data (bs (nuT y2 g2.1))))) : Int) ≤ (↑(List.length (Array.toList (ByteArray.data (bs (nuT y2 g2.1))))) : Int)))
     (br (decide (List.length (Array.toList (ByteArray.data (sub (bs (nuT y2 g2.1)) (0 : Nat) (Int.toNat (inside g2.3 (0 : Int) (Int.ofNat (List.length (Array.toList (ByteArray.data (bs (nuT y2 g2.1)))))))))) ++ [UInt8.ofNat (Int.toNat (↑(UInt8.toNat (GNu.c g2)) : Int))]) + List.length (Array.toList (ByteArray.data (sub (bs (nuT y2 g2.1)) (Int.toNat (inside g2.3 (0 : Int) (Int.ofNat (List.length (Array.toList (ByteArray.data (bs (nuT y2 g2.1)))))))) (Int.toNat (↑(List.length (Array.toList (ByteArray.data (bs (nuT y2 g2.1))))) : Int))))) ≤ (9223372036854775807 : Nat)))
      ((((True ∧ True) ∧ (True ∧ List.length (L (sub (bs (nuT y2 g2.1)) (0 : Nat) (Int.toNat (inside g2.3 (0 : Int) (Int.ofNat (List.length (Array.toList (ByteArray.data (bs (nuT y2 g2.1)))))))) ++ ByteArray.mk #[UInt8.ofNat (Int.toNat (↑(UInt8.toNat (GNu.c g2)) : Int))] ++ sub (bs (nuT y2 g2.1)) (Int.toNat (inside g2.3 (0 : Int) (Int.ofNat (List.length (Array.toList (ByteArray.data (bs (nuT y2 g2.1)))))))) (Int.toNat (↑(List.length (Array.toList (ByteArray.data (bs (nuT y2 g2.1))))) : Int)))) ≤ (9223372036854775807 : Nat)))) ∧
      (br (decide ((0 : Int) ≤ (↑(0 : Nat) : Int) ∧ (0 : Int) ≤ inside g2.3 (0 : Int) (Int.ofNat (List.length (Array.toList (ByteArray.data (bs (nuT y2 g2.1)))))) ∧ inside g2.3 (0 : Int) (Int.ofNat (List.length (Array.toList (ByteArray.data (bs (nuT y2 g2.1)))))) ≤ (↑(List.length (Array.toList (ByteArray.data (bs (nuT y2 g2.1))))) : Int)))
       ((Value.string (sub (bs (nuT y2 g2.1)) (0 : Nat) (Int.toNat (inside g2.3 (0 : Int) (Int.ofNat (List.length (Array.toList (ByteArray.data (bs (nuT y2 g2.1))))))))) = Value.string (sub (bs (nuT y2 g2.1)) (0 : Nat) (Int.toNat (inside g2.3 (0 : Int) (Int.ofNat (List.length (Array.toList (ByteArray.data (bs (nuT y2 g2.1)))))))))) ∧
       ((Value.string (ByteArray.mk #[UInt8.ofNat (Int.toNat (↑(UInt8.toNat (GNu.c g2)) : Int))]) = Value.string (ByteArray.mk #[UInt8.ofNat (Int.toNat (↑(UInt8.toNat (GNu.c g2)) : Int))])) ∧
       (br (decide ((0 : Int) ≤ inside g2.3 (0 : Int) (Int.ofNat (List.length (Array.toList (ByteArray.data (bs (nuT y2 g2.1)))))) ∧ inside g2.3 (0 : Int) (Int.ofNat (List.length (Array.toList (ByteArray.data (bs (nuT y2 g2.1)))))) ≤ (↑(List.length (Array.toList (ByteArray.data (bs (nuT y2 g2.1))))) : Int) ∧ (↑(List.length (Array.toList (ByteArray.data (bs (nuT y2 g2.1))))) : Int) ≤ (↑(List.length (Array.toList (ByteArray.data (bs (nuT y2 g2.1))))) : Int)))
        ((Value.string (sub (bs (nuT y2 g2.1)) (Int.toNat (inside g2.3 (0 : Int) (Int.ofNat (List.length (Array.toList (ByteArray.data (bs (nuT y2 g2.1)))))))) (Int.toNat (↑(List.length (Array.toList (ByteArray.data (bs (nuT y2 g2.1))))) : Int))) = Value.string (sub (bs (nuT y2 g2.1)) (Int.toNat (inside g2.3 (0 : Int) (Int.ofNat (List.length (Array.toList (ByteArray.data (bs (nuT y2 g2.1)))))))) (Int.toNat (↑(List.length (Array.toList (ByteArray.data (bs (nuT y2 g2.1))))) : Int)))) ∧
        ((((True ∧ True) ∧ (True ∧ List.length (L (bs (nuT y2 g2.1))) ≤ (9223372036854775807 : Nat)))) ∧
        (br (secS (bs (nuT y2 g2.1)) == if (2147483647 : Int) < IntKind.wrap IntKind.i64 (↑g2.1 : Int) then (2147483647 : Int) else IntKind.wrap IntKind.i64 (↑g2.1 : Int))
         (br (decide ((↑(UInt8.toNat (GNu.c g2)) : Int) ≥ (48 : Int)))
          (br (decide ((↑(UInt8.toNat (GNu.c g2)) : Int) ≤ (57 : Int)))
           (((True ∧ (True ∧ True))) ∧
           ((true = true) ∧
           True))
           (br (secS (sub (bs (nuT y2 g2.1)) (0 : Nat) (Int.toNat (inside g2.3 (0 : Int) (Int.ofNat (List.length (Array.toList (ByteArray.data (bs (nuT y2 g2.1)))))))) ++ ByteArray.mk #[UInt8.ofNat (Int.toNat (↑(UInt8.toNat (GNu.c g2)) : Int))] ++ sub (bs (nuT y2 g2.1)) (Int.toNat (inside g2.3 (0 : Int) (Int.ofNat (List.length (Array.toList (ByteArray.data (bs (nuT y2 g2.1)))))))) (Int.toNat (↑(List.length (Array.toList (ByteArray.data (bs (nuT y2 g2.1))))) : Int))) == (-1 : Int))
            (((True ∧ (True ∧ True))) ∧
            ((true = true) ∧
            True))
            ((true = false) ∧
            True)))
          (br (secS (sub (bs (nuT y2 g2.1)) (0 : Nat) (Int.toNat (inside g2.3 (0 : Int) (Int.ofNat (List.length (Array.toList (ByteArray.data (bs (nuT y2 g2.1)))))))) ++ ByteArray.mk #[UInt8.ofNat (Int.toNat (↑(UInt8.toNat (GNu.c g2)) : Int))] ++ sub (bs (nuT y2 g2.1)) (Int.toNat (inside g2.3 (0 : Int) (Int.ofNat (List.length (Array.toList (ByteArray.data (bs (nuT y2 g2.1)))))))) (Int.toNat (↑(List.length (Array.toList (ByteArray.data (bs (nuT y2 g2.1))))) : Int))) == (-1 : Int))
           (((True ∧ (True ∧ True))) ∧
           ((true = true) ∧
           True))
           ((true = false) ∧
           True)))
         ((true = false) ∧
         True))))
        False)))
       False))
      False)
     False)
    False)
   False))))))))))))))))))))) := by kernel_rfl
theorem cNu_ok : ∀ f a rows p v news, cNu f a rows = some (p, v, news) → p → Con Try.prog f a rows v (rows ++ news) := by
  intro f a rows p v news h hp
  unfold cNu at h
  split at h <;> simp only [Option.some.injEq, Prod.mk.injEq, reduceCtorEq] at h <;> obtain ⟨rfl, rfl, rfl⟩ := h
  · exact Se_con (L _) hp
  · obtain ⟨h1, rfl, h2, h3⟩ := hp
    exact within_con _ 0 _ h1 (by omega) h3 h2
  · exact con_run mixed (n := 1000000) (by kernel_rfl) (by kernel_rfl)
theorem secF_dg2 (n : Nat) : secF (dgL n) 0 = some (min n 2147483647) := by
  induction n using Nat.strongRecOn with
  | _ n ih =>
    obtain ⟨a, b, c⟩ := dgC_in n
    by_cases h : n < 10
    · rw [dg_lt n h, secF, if_pos ⟨a, b⟩, secF, c]
      congr 1; omega
    · rw [dg_ge n h, secF_app, ih (n / 10) (by omega), Option.bind_some, secF, if_pos ⟨a, b⟩, secF, c]
      congr 1; omega
theorem secF_no (d : List UInt8) : ∀ j, secF (List.replicate j 48 ++ d) 0 = secF d 0
  | 0 => rfl
  | j + 1 => by
    rw [List.replicate_succ, List.cons_append, secF, if_pos (by decide)]
    exact secF_no d j
theorem secL_nu (j n : Nat) : secL (nuT j n) = ((min n 2147483647 : Nat) : Int) := by
  unfold secL nuT
  rw [if_neg (by simp [dgL_ne]), secF_no, secF_dg2]; rfl
theorem secL_odd (a b : List UInt8) (c : UInt8) (h : ¬ (48 ≤ c.toNat ∧ c.toNat ≤ 57)) : secL (a ++ [c] ++ b) = -1 := by
  unfold secL
  rw [if_neg (by simp), List.append_assoc, secF_app]
  cases secF a 0 with
  | none => rfl
  | some m => rw [Option.bind_some, List.cons_append, secF, if_neg h]; rfl
theorem N1_piece : PieceOk ENu 0 (6, pN1, specN1) := by
  refine piece_loop mixed (calls_envC cNu_ok) (lok_envC _ _ _) lm_none (n := 60) (by kernel_rfl) (fun g : GNu => (⟨g.n, []⟩ : StDg)) (fun g s => s.n ≤ 1000000000000 ∧ (if 0 < s.n ∨ s.s = [] then dgL s.n ++ s.s else s.s) = dgL g.n) (fun g s => s.n + if s.s = [] then 1 else 0) (sl := slN1) (rl := fun _ _ => []) (fun g hn => ⟨hn, by simp⟩) (fun g s hg hi => ?_)
  refine (N1_round g s _ _).mpr ?_
  obtain ⟨k, s⟩ := s
  obtain ⟨n, no, at_, c⟩ := g
  obtain ⟨h1, h2⟩ := hi
  simp only at h1 h2 hg
  have e0 : (⟨#[]⟩ : ByteArray) = bs [] := rfl
  have q1 : (k : Int).tmod 10 = ((k % 10 : Nat) : Int) := by rw [Int.tmod_eq_emod_of_nonneg (by omega)]; omega
  have q2 : (k : Int).tdiv 10 = ((k / 10 : Nat) : Int) := by rw [Int.tdiv_eq_ediv_of_nonneg (by omega)]; omega
  simp only [ofNat_eq, toNat_cast, Nat.zero_add, Nat.add_zero, Nat.mul_one, List.drop_zero, bCells_len, bCells_drop, bCells_take, bCells_app, bCells_one, bCells_plain, List.length_replicate, List.length_append, List.length_take, List.length_drop, List.take_length, and_true, true_and, and_self, decide_true, List.length_nil, List.length_cons, Nat.sub_zero, dB_mk, dB_ro, List.take_zero, e0, strEq_bs, q1, q2]
  have hlen : s.length ≤ 13 := by
    have h4 := dgL_len n 13 (by omega) (by omega)
    rw [← h2] at h4
    split at h4
    · rw [List.length_append] at h4; omega
    · exact h4
  have w : IntKind.i64.wrap ((k / 10 : Nat) : Int) = ((k / 10 : Nat) : Int) := wr64_id (by unfold I64; omega)
  have hb : (bs s).data.toList.length = s.length := bs_len s
  have hc : UInt8.ofNat (IntKind.u8.wrap (IntKind.i64.wrap (48 + ((k % 10 : Nat) : Int)))).toNat = dgC k := by
    rw [wr64_id (by unfold I64; omega), show (48 + ((k % 10 : Nat) : Int)) = ((48 + k % 10 : Nat) : Int) by omega, wru8_nat (by omega)]; rfl
  have hcat : (⟨#[dgC k]⟩ : ByteArray) ++ bs s = bs (dgC k :: s) := by rw [show (⟨#[dgC k]⟩ : ByteArray) = bs [dgC k] from rfl, bs_app]; rfl
  have hgo : (0 < k ∨ s = []) → (∃ j : StDg, (j.n ≤ 1000000000000 ∧ (if 0 < j.n ∨ j.s = [] then dgL j.n ++ j.s else j.s) = dgL n) ∧ ((j.n + if j.s = [] then 1 else 0) < k + if s = [] then 1 else 0) ∧ bs j.s = bs (dgC k :: s) ∧ ((j.n : Nat) : Int) = ((k / 10 : Nat) : Int)) := fun h => by
    refine ⟨⟨k / 10, dgC k :: s⟩, ⟨by simp only; omega, dg_step k s _ h2 h⟩, ?_, rfl, rfl⟩
    simp only
    rw [if_neg (by simp)]
    rcases h with h | h
    · split <;> omega
    · rw [if_pos h]; omega
  simp only [hb, hc, hcat, w]
  refine br_if (fun h => br_dec (by omega) (hgo (Or.inl (by omega)))) (fun h => br_if (fun h => br_dec (by omega) (hgo (Or.inr h))) (fun h3 => ?_))
  rw [if_neg (fun hh => hh.elim (fun a => by omega) h3)] at h2
  exact ⟨⟨k, s⟩, h2, rfl⟩
theorem N2_piece : PieceOk ENu 0 (6, pN2, specN2) := by
  refine piece_loop mixed (calls_envC cNu_ok) (lok_envC _ _ _) lm_none (n := 60) (by kernel_rfl) (fun g : GNu => (⟨g.no, 0⟩ : StN2)) (fun g s => s.i + s.j ≤ 30 ∧ s.j ≤ 30 ∧ s.i < 30) (fun g s => s.i.toNat) (sl := slN2) (rl := fun _ _ => []) (fun g hn => ⟨by have := hn.2; simp only; omega, by simp, hn.2⟩) (fun g s hg hi => ?_)
  refine (N2_round g s _ _).mpr ?_
  obtain ⟨i, j⟩ := s
  obtain ⟨n, no, at_, c⟩ := g
  obtain ⟨h1, h2, h3⟩ := hi
  obtain ⟨g1, g2⟩ := hg
  simp only at h1 h2 h3 g1 g2
  simp only [ofNat_eq, toNat_cast, Nat.zero_add, Nat.add_zero, Nat.mul_one, List.drop_zero, bCells_len, bCells_drop, bCells_take, bCells_app, bCells_one, bCells_plain, List.length_replicate, List.length_append, List.length_take, List.length_drop, List.take_length, and_true, true_and, and_self, decide_true, List.length_nil, List.length_cons, Nat.sub_zero, dB_mk, dB_ro, List.take_zero]
  have hL : (bs (nuT j n)).data.toList.length = j + (dgL n).length := by
    rw [show (bs (nuT j n)).data.toList.length = (nuT j n).length from bs_len _]; unfold nuT; simp
  have h4 := dgL_len n 13 (by omega) (by omega)
  refine br_if (fun h => br_dec (by rw [hL]; omega) ⟨⟨i - 1, j + 1⟩, ⟨by simp only; omega, by simp only; omega, by simp only; omega⟩, by simp only; omega, ?_, ?_⟩) (fun h => ⟨j, h2, rfl⟩)
  · simp only
    rw [show (⟨#[48]⟩ : ByteArray) = bs [48] from rfl, bs_app]; unfold nuT; rw [List.replicate_succ]; rfl
  · simp only
    rw [wr64_id (by unfold I64; omega)]
theorem nu_law (n no at_ : Int) (c : UInt8) (hn : (Lit.int .u32 n).wf = true) (hno : I64 no) (hat : I64 at_) :
    Con Try.prog 6 [.int .u32 n, .int .i64 no, .int .i64 at_, bVal c] [] (.bool true) [] := by
  have hn : 0 ≤ n ∧ n < 4294967296 := by
    simp only [Lit.wf, Bool.and_eq_true, decide_eq_true_eq] at hn
    have h1 : IntKind.u32.min = 0 := by rfl
    have h2 : IntKind.u32.max = 4294967295 := by rfl
    rw [h1, h2] at hn
    omega
  obtain ⟨k, rfl⟩ : ∃ k : Nat, n = (k : Nat) := ⟨n.toNat, by omega⟩
  refine con_vc (E := ENu) mixed (calls_envC cNu_ok) (lok_envC _ _ _) (M := mNu) (lm_two N1_piece N2_piece) (Nu_vc _ no at_ c) ?_
  have w : IntKind.i64.wrap (k : Int) = (k : Int) := wr64_id (by unfold I64; omega)
  simp only [ofNat_eq, toNat_cast, Nat.zero_add, Nat.add_zero, Nat.mul_one, List.drop_zero, bCells_len, bCells_drop, bCells_take, bCells_app, bCells_one, bCells_plain, List.length_replicate, List.length_append, List.length_take, List.length_drop, List.take_length, and_true, true_and, and_self, decide_true, List.length_nil, List.length_cons, Nat.sub_zero, dB_mk, dB_ro, List.take_zero, w]
  refine ⟨⟨k, no, at_, c⟩, by simp only; omega, rfl, rfl, rfl, rfl, rfl, rfl, fun y hy => ?_⟩
  have ht : no.tmod 30 < 30 := Int.tmod_lt_of_pos _ (by omega)
  refine ⟨⟨k, no.tmod 30, at_, c⟩, ⟨by simp only; omega, ht⟩, rfl, rfl, rfl, by rw [hy]; rfl, rfl, fun j hj => ?_⟩
  simp only
  have hL : (bs (nuT j k)).data.toList.length = (nuT j k).length := bs_len _
  have h4 := dgL_len k 13 (by omega) (by omega)
  have h5 : (nuT j k).length = j + (dgL k).length := by unfold nuT; simp
  have hi := inside_in at_ 0 ((nuT j k).length : Nat) (by omega)
  rw [hL]
  generalize inside at_ 0 ((nuT j k).length : Nat) = q at hi ⊢
  obtain ⟨m, rfl⟩ : ∃ m : Nat, q = (m : Nat) := ⟨q.toNat, by omega⟩
  have hm : m ≤ (nuT j k).length := by omega
  have e1 : sub (bs (nuT j k)) 0 m = bs ((nuT j k).take m) := by rw [sub_bs]; simp
  have e2 : sub (bs (nuT j k)) m (nuT j k).length = bs ((nuT j k).drop m) := by rw [sub_bs, List.take_of_length_le (by simp)]
  have hcat : bs ((nuT j k).take m) ++ (⟨#[UInt8.ofNat c.toNat]⟩ : ByteArray) ++ bs ((nuT j k).drop m) = bs ((nuT j k).take m ++ [c] ++ (nuT j k).drop m) := by
    rw [show (⟨#[UInt8.ofNat c.toNat]⟩ : ByteArray) = bs [c] by rw [show UInt8.ofNat c.toNat = c by simp]; rfl, bs_app, bs_app]
  have hs1 : secS (bs (nuT j k)) = ((min k 2147483647 : Nat) : Int) := secL_nu j k
  have hs2 : ¬ (48 ≤ c.toNat ∧ c.toNat ≤ 57) → secS (bs ((nuT j k).take m ++ [c] ++ (nuT j k).drop m)) = -1 := fun h => secL_odd _ _ c h
  have hw : (if 2147483647 < (k : Int) then 2147483647 else (k : Int)) = ((min k 2147483647 : Nat) : Int) := by split <;> omega
  have l1 : (bs ((nuT j k).take m)).data.toList.length = m := by rw [show (bs ((nuT j k).take m)).data.toList.length = ((nuT j k).take m).length from bs_len _, List.length_take]; omega
  have l2 : (bs ((nuT j k).drop m)).data.toList.length = (nuT j k).length - m := by rw [show (bs ((nuT j k).drop m)).data.toList.length = ((nuT j k).drop m).length from bs_len _, List.length_drop]
  have l3 : ((nuT j k).take m ++ [c] ++ (nuT j k).drop m).length = (nuT j k).length + 1 := by simp; omega
  simp only [toNat_cast, e1, e2, hcat, w, hs1, hw, l1, l2, bs_len, l3]
  generalize secS (bs ((nuT j k).take m ++ [c] ++ (nuT j k).drop m)) = sx at hs2 ⊢
  generalize (nuT j k).length = len at h5 hi hm ⊢
  have hm2 : maxLen = 9223372036854775807 := by unfold maxLen; rfl
  refine ⟨⟨hat, by omega, by omega⟩, ?_⟩
  refine br_dec (by omega) (br_dec (by omega) (br_dec (by omega) (br_dec (by omega) ⟨by omega, br_dec (by omega) (br_dec (by omega) ⟨by omega, br_b (by simp) ?_⟩)⟩)))
  refine br_if (fun a => br_if (fun b => trivial) (fun b => ?_)) (fun a => ?_)
  · rw [hs2 (by omega)]; exact br_b rfl trivial
  · rw [hs2 (by omega)]; exact br_b rfl trivial
end Go.Proofs.Ytdbeebannnofpaa.tk
