/- A text as a quoted one (the law's own helper). -/
import Derived.Test.YtllpeacofilbcaaSz9
import Derived.Test.YtllpeacofilbcaaRows
import Derived.Test.YtllpeacofilbcaaLbrt
set_option linter.unusedSimpArgs false
set_option linter.unusedVariables false
namespace Go.Proofs.Ytllpeacofilbcaa.tk
open Go Go.Ev Go.Sy Go.RowKit Go.Proofs.Ytllpeacofilbcaa.gl
def escC (c : UInt8) : List UInt8 := if c = 34 ∨ c = 92 then [92, c] else [c]
def escL (l : List UInt8) : List UInt8 := l.flatMap escC
def okQ (l : List UInt8) : Bool := l.all fun c => !ctlN c.toNat
def quoL (l : List UInt8) : List UInt8 := 34 :: (escL l ++ [34])
def quoS (s : ByteArray) : ByteArray := bs (if okQ (L s) then quoL (L s) else [])
def quoB (s : ByteArray) : Bool := okQ (L s)
def pQt : List Nat := [0, 1, 0, 1, 1]
structure StQt where
  acc : List UInt8
  i : Nat
def slQt (b : List UInt8) (s : StQt) : List (Nat × Value) := [(0, .string (bs b)), (4, .string (bs s.acc)), (5, .int .i64 (s.i : Nat))]
def wsQt (b : List UInt8) : List (Gate (List UInt8)) := [⟨.exit 0, fun a => okQ b = true ∧ a = 34 :: escL b, fun a => [(4, .string (bs a))], fun _ => [], 0⟩, ⟨.ret, fun _ => okQ b = false, fun _ => [(2, .string (bs [])), (3, .bool false)], fun _ => [], 0⟩]
def specQt : Sy.Spec := specOf 0 0 49 (fun b : List UInt8 => b.length ≤ 1000) (fun b => slQt b ⟨[34], 0⟩) (fun b => []) wsQt
def mQt := mOf [(19, pQt, specQt)]
theorem Qt_round (b : List UInt8) (s : StQt) (Inv : StQt → Prop) (m : StQt → Nat) : mev E0 noM 60 19 (0 :: pQt) false (codeOf Try.prog 19 (0 :: pQt)) ⟨mkOv (slQt b s), 49, []⟩ none ⟨mkR [], 0⟩ (roundK 0 0 49 Inv m (slQt b) (fun _ => []) (wsQt b) s) =
  (br (decide ((↑s.2 : Int) < Int.ofNat (List.length (Array.toList (ByteArray.data (bs b))))))
   (br (decide ((0 : Int) ≤ (↑s.2 : Int) ∧ (↑s.2 : Int) < (↑(List.length (Array.toList (ByteArray.data (bs b)))) : Int)))
    (br (decide (byteAt (bs b) (Int.toNat (↑s.2 : Int)) < (32 : Int)))
     (br (decide ((0 : Int) ≤ (↑s.2 : Int) ∧ (↑s.2 : Int) < (↑(List.length (Array.toList (ByteArray.data (bs b)))) : Int)))
      (br (byteAt (bs b) (Int.toNat (↑s.2 : Int)) != (9 : Int))
       (∃ y : List UInt8, ((okQ b = false) ∧
       ((bs [] = ByteArray.mk #[]) ∧
       ((false = false) ∧
       True))))
       (br (decide ((0 : Int) ≤ (↑s.2 : Int) ∧ (↑s.2 : Int) < (↑(List.length (Array.toList (ByteArray.data (bs b)))) : Int)))
        (br (byteAt (bs b) (Int.toNat (↑s.2 : Int)) == (127 : Int))
         (∃ y : List UInt8, ((okQ b = false) ∧
         ((bs [] = ByteArray.mk #[]) ∧
         ((false = false) ∧
         True))))
         (br (decide ((0 : Int) ≤ (↑s.2 : Int) ∧ (↑s.2 : Int) < (↑(List.length (Array.toList (ByteArray.data (bs b)))) : Int)))
          (br (byteAt (bs b) (Int.toNat (↑s.2 : Int)) == (34 : Int))
           (br (decide (List.length (Array.toList (ByteArray.data (bs s.1))) + (1 : Nat) ≤ (9223372036854775807 : Nat)))
            (br (decide ((0 : Int) ≤ (↑s.2 : Int) ∧ (↑s.2 : Int) < (↑(List.length (Array.toList (ByteArray.data (bs b)))) : Int)))
             (br (decide (List.length (Array.toList (ByteArray.data (bs s.1)) ++ [(92 : UInt8)]) + (1 : Nat) ≤ (9223372036854775807 : Nat)))
              (∃ j : StQt, ((Inv j) ∧
              ((m j < m s) ∧
              ((bs b = bs b) ∧
              ((bs j.1 = bs s.1 ++ ByteArray.mk #[(92 : UInt8)] ++ ByteArray.mk #[UInt8.ofNat (Int.toNat (byteAt (bs b) (Int.toNat (↑(StQt.i s) : Int))))]) ∧
              (((↑j.2 : Int) = IntKind.wrap IntKind.i64 ((↑s.2 : Int) + (1 : Int))) ∧
              True))))))
              False)
             False)
            False)
           (br (decide ((0 : Int) ≤ (↑s.2 : Int) ∧ (↑s.2 : Int) < (↑(List.length (Array.toList (ByteArray.data (bs b)))) : Int)))
            (br (byteAt (bs b) (Int.toNat (↑s.2 : Int)) == (92 : Int))
             (br (decide (List.length (Array.toList (ByteArray.data (bs s.1))) + (1 : Nat) ≤ (9223372036854775807 : Nat)))
              (br (decide ((0 : Int) ≤ (↑s.2 : Int) ∧ (↑s.2 : Int) < (↑(List.length (Array.toList (ByteArray.data (bs b)))) : Int)))
               (br (decide (List.length (Array.toList (ByteArray.data (bs s.1)) ++ [(92 : UInt8)]) + (1 : Nat) ≤ (9223372036854775807 : Nat)))
                (∃ j : StQt, ((Inv j) ∧
                ((m j < m s) ∧
                ((bs b = bs b) ∧
                ((bs j.1 = bs s.1 ++ ByteArray.mk #[(92 : UInt8)] ++ ByteArray.mk #[UInt8.ofNat (Int.toNat (byteAt (bs b) (Int.toNat (↑(StQt.i s) : Int))))]) ∧
                (((↑j.2 : Int) = IntKind.wrap IntKind.i64 ((↑s.2 : Int) + (1 : Int))) ∧
                True))))))
                False)
               False)
              False)
             (br (decide ((0 : Int) ≤ (↑s.2 : Int) ∧ (↑s.2 : Int) < (↑(List.length (Array.toList (ByteArray.data (bs b)))) : Int)))
              (br (decide (List.length (Array.toList (ByteArray.data (bs s.1))) + (1 : Nat) ≤ (9223372036854775807 : Nat)))
               (∃ j : StQt, ((Inv j) ∧
               ((m j < m s) ∧
               ((bs b = bs b) ∧
               ((bs j.1 = bs s.1 ++ ByteArray.mk #[UInt8.ofNat (Int.toNat (byteAt (bs b) (Int.toNat (↑(StQt.i s) : Int))))]) ∧
               (((↑j.2 : Int) = IntKind.wrap IntKind.i64 ((↑s.2 : Int) + (1 : Int))) ∧
               True))))))
               False)
              False))
            False))
          False))
        False))
      False)
     (br (decide ((0 : Int) ≤ (↑s.2 : Int) ∧ (↑s.2 : Int) < (↑(List.length (Array.toList (ByteArray.data (bs b)))) : Int)))
      (br (byteAt (bs b) (Int.toNat (↑s.2 : Int)) == (127 : Int))
       (∃ y : List UInt8, ((okQ b = false) ∧
       ((bs [] = ByteArray.mk #[]) ∧
       ((false = false) ∧
       True))))
       (br (decide ((0 : Int) ≤ (↑s.2 : Int) ∧ (↑s.2 : Int) < (↑(List.length (Array.toList (ByteArray.data (bs b)))) : Int)))
        (br (byteAt (bs b) (Int.toNat (↑s.2 : Int)) == (34 : Int))
         (br (decide (List.length (Array.toList (ByteArray.data (bs s.1))) + (1 : Nat) ≤ (9223372036854775807 : Nat)))
          (br (decide ((0 : Int) ≤ (↑s.2 : Int) ∧ (↑s.2 : Int) < (↑(List.length (Array.toList (ByteArray.data (bs b)))) : Int)))
           (br (decide (List.length (Array.toList (ByteArray.data (bs s.1)) ++ [(92 : UInt8)]) + (1 : Nat) ≤ (9223372036854775807 : Nat)))
            (∃ j : StQt, ((Inv j) ∧
            ((m j < m s) ∧
            ((bs b = bs b) ∧
            ((bs j.1 = bs s.1 ++ ByteArray.mk #[(92 : UInt8)] ++ ByteArray.mk #[UInt8.ofNat (Int.toNat (byteAt (bs b) (Int.toNat (↑(StQt.i s) : Int))))]) ∧
            (((↑j.2 : Int) = IntKind.wrap IntKind.i64 ((↑s.2 : Int) + (1 : Int))) ∧
            True))))))
            False)
           False)
          False)
         (br (decide ((0 : Int) ≤ (↑s.2 : Int) ∧ (↑s.2 : Int) < (↑(List.length (Array.toList (ByteArray.data (bs b)))) : Int)))
          (br (byteAt (bs b) (Int.toNat (↑s.2 : Int)) == (92 : Int))
           (br (decide (List.length (Array.toList (ByteArray.data (bs s.1))) + (1 : Nat) ≤ (9223372036854775807 : Nat)))
            (br (decide ((0 : Int) ≤ (↑s.2 : Int) ∧ (↑s.2 : Int) < (↑(List.length (Array.toList (ByteArray.data (bs b)))) : Int)))
             (br (decide (List.length (Array.toList (ByteArray.data (bs s.1)) ++ [(92 : UInt8)]) + (1 : Nat) ≤ (9223372036854775807 : Nat)))
              (∃ j : StQt, ((Inv j) ∧
              ((m j < m s) ∧
              ((bs b = bs b) ∧
              ((bs j.1 = bs s.1 ++ ByteArray.mk #[(92 : UInt8)] ++ ByteArray.mk #[UInt8.ofNat (Int.toNat (byteAt (bs b) (Int.toNat (↑(StQt.i s) : Int))))]) ∧
              (((↑j.2 : Int) = IntKind.wrap IntKind.i64 ((↑s.2 : Int) + (1 : Int))) ∧
              True))))))
              False)
             False)
            False)
           (br (decide ((0 : Int) ≤ (↑s.2 : Int) ∧ (↑s.2 : Int) < (↑(List.length (Array.toList (ByteArray.data (bs b)))) : Int)))
            (br (decide (List.length (Array.toList (ByteArray.data (bs s.1))) + (1 : Nat) ≤ (9223372036854775807 : Nat)))
             (∃ j : StQt, ((Inv j) ∧
             ((m j < m s) ∧
             ((bs b = bs b) ∧
             ((bs j.1 = bs s.1 ++ ByteArray.mk #[UInt8.ofNat (Int.toNat (byteAt (bs b) (Int.toNat (↑(StQt.i s) : Int))))]) ∧
             (((↑j.2 : Int) = IntKind.wrap IntKind.i64 ((↑s.2 : Int) + (1 : Int))) ∧
             True))))))
             False)
            False))
          False))
        False))
      False))
    False)
   (∃ y : List UInt8, (((okQ b = true ∧ Eq (α := List UInt8) (y) ((34 : UInt8) :: escL b))) ∧
   ((bs y = bs s.1) ∧
   True)))) := by kernel_rfl
theorem Qt_vc (l v : List UInt8) (x : Bool) : mcall E0 mQt 60 19 [.string (bs l)] ⟨mkR (nums 0 []), 0⟩ (retIs 0 (.tuple #[.string (bs v), .bool x]) []) =
  (∃ g : List UInt8, ((List.length g ≤ (1000 : Nat)) ∧
  ((bs g = bs l) ∧
  ((bs (StQt.acc (StQt.mk [(34 : UInt8)] (0 : Nat))) = ByteArray.mk #[(34 : UInt8)]) ∧
  (((0 : Int) = (0 : Int)) ∧
  (∀ (side : Bool), (br (side)
   (∀ (y : List UInt8), ((okQ g = true ∧ y = (34 : UInt8) :: escL g) →
   (br (decide (List.length (Array.toList (ByteArray.data (bs y))) + (1 : Nat) ≤ (9223372036854775807 : Nat)))
    ((bs v = bs y ++ ByteArray.mk #[(34 : UInt8)]) ∧
    ((x = true) ∧
    True))
    False)))
   (∀ (y : List UInt8), ((okQ g = false) →
   ((bs v = bs []) ∧
   ((x = false) ∧
   True))))))))))) := by kernel_rfl
theorem escC_len (c : UInt8) : 1 ≤ (escC c).length ∧ (escC c).length ≤ 2 := by unfold escC; split <;> simp
theorem escL_len : ∀ l : List UInt8, l.length ≤ (escL l).length ∧ (escL l).length ≤ 2 * l.length
  | [] => by simp [escL]
  | c :: l => by
    have h := escL_len l
    have h2 := escC_len c
    unfold escL at h ⊢
    rw [List.flatMap_cons, List.length_append, List.length_cons]
    omega
theorem escL_app (a b : List UInt8) : escL (a ++ b) = escL a ++ escL b := by unfold escL; rw [List.flatMap_append]
theorem escL_one (c : UInt8) : escL [c] = escC c := by unfold escL; simp
theorem quoL_len (l : List UInt8) : (quoL l).length ≤ 2 * l.length + 2 := by
  have := escL_len l
  unfold quoL; simp; omega
theorem Qt_piece : PieceOk E0 0 (19, pQt, specQt) := by
  refine piece_loop mixed (calls_envN _) (lok_envN _) lm_none (n := 60) (by kernel_rfl) (fun _ : List UInt8 => (⟨[34], 0⟩ : StQt)) (fun b s => s.i ≤ b.length ∧ okQ (b.take s.i) = true ∧ s.acc = 34 :: escL (b.take s.i)) (fun b s => b.length - s.i) (sl := slQt) (rl := fun _ _ => []) (fun b hg => ⟨Nat.zero_le _, by simp [okQ], by simp [escL]⟩) (fun b s hg hi => ?_)
  refine (Qt_round b s _ _).mpr ?_
  obtain ⟨acc, i⟩ := s
  obtain ⟨h1, h2, h3⟩ := hi
  simp only at h1 h2 h3
  simp only [ofNat_eq, toNat_cast, Nat.zero_add, Nat.add_zero, Nat.mul_one, List.drop_zero, bCells_len, bCells_drop, bCells_take, bCells_app, bCells_one, bCells_plain, List.length_replicate, List.length_append, List.length_take, List.length_drop, List.take_length, and_true, true_and, and_self, decide_true, List.length_nil, List.length_cons, Nat.sub_zero, dB_mk, dB_ro, List.take_zero, bs_dd, bs_nil]
  refine br_if (fun h => br_dec (by omega) ?_) (fun h => ?_)
  rotate_left
  · rw [List.take_of_length_le (by omega)] at h2 h3
    exact ⟨acc, ⟨h2, h3⟩, rfl⟩
  have hi : i < b.length := by omega
  rw [byteAt_bs hi]
  have w := i64_succ (show i < 9223372036854775807 by omega)
  have ht : b.take (i + 1) = b.take i ++ [b[i]] := List.take_succ_eq_append_getElem hi
  have hin : b[i] ∈ b := List.getElem_mem hi
  obtain ⟨c, hc⟩ : ∃ c, c = b[i] := ⟨_, rfl⟩
  rw [← hc] at ht hin ⊢
  have e1 : (⟨#[UInt8.ofNat ((c.toNat : Nat) : Int).toNat]⟩ : ByteArray) = bs [c] := by rw [toNat_cast, UInt8.ofNat_toNat]; rfl
  have e1' : (⟨#[UInt8.ofNat c.toNat]⟩ : ByteArray) = bs [c] := by rw [UInt8.ofNat_toNat]; rfl
  have hle := escL_len (b.take i)
  have hlt : (b.take i).length ≤ 1000 := by rw [List.length_take]; omega
  have hno : ctlN c.toNat = true → okQ b = false := fun h => by
    unfold okQ; rw [List.all_eq_false]; exact ⟨c, hin, by simp [h]⟩
  have hyes : ctlN c.toNat = false → okQ (b.take (i + 1)) = true := fun h => by
    rw [ht]; unfold okQ at h2 ⊢; rw [List.all_append, h2]; simp [h]
  have cases3 : ∀ (A B : Prop), (ctlN c.toNat = true → A) → (ctlN c.toNat = false → B) → br (decide ((c.toNat : Int) < 32)) (br ((c.toNat : Int) != 9) A (br ((c.toNat : Int) == 127) A B)) (br ((c.toNat : Int) == 127) A B) := fun A B ha hb => by
    unfold ctlN at ha hb
    refine br_if (fun x1 => br_intro (fun x2 => ha ?_) (fun x2 => br_intro (fun x3 => ?_) (fun x3 => hb ?_))) (fun x1 => br_intro (fun x3 => ha ?_) (fun x3 => hb ?_)) <;> simp at * <;> omega
  have hb : ∀ (d : Decidable (0 ≤ (i : Int) ∧ (i : Int) < (b.length : Int))) (X : Prop), br (@decide _ d) X False = X := fun d X => brT (by omega) X
  have hacc : acc.length ≤ 2001 := by rw [h3]; simp; omega
  have hb1 : ∀ (d : Decidable (acc.length + 1 ≤ 9223372036854775807)) (X : Prop), br (@decide _ d) X False = X := fun d X => brT (by omega) X
  have hb2 : ∀ (d : Decidable (acc.length + 1 + 1 ≤ 9223372036854775807)) (X : Prop), br (@decide _ d) X False = X := fun d X => brT (by omega) X
  have e92 : (⟨#[92]⟩ : ByteArray) = bs [92] := rfl
  simp only [e1, e1', e92, w, toNat_cast, hb, hb1, hb2, bs_app]
  have hB : ∀ n : Nat, n < 256 → ((c.toNat : Int) == (n : Int)) = true → c = UInt8.ofNat n := fun n hn h => (u8_nat hn).1 (by simpa using h)
  have hB' : ∀ n : Nat, n < 256 → ((c.toNat : Int) == (n : Int)) = false → c ≠ UInt8.ofNat n := fun n hn h e => by rw [(u8_nat hn).2 e] at h; simp at h
  have step : ∀ x : List UInt8, x = escC c → ctlN c.toNat = false → acc ++ x = 34 :: escL (b.take (i + 1)) := fun x hx _ => by rw [ht, escL_app, escL_one, h3, hx]; simp
  refine cases3 _ _ (fun h => ⟨[], hno h⟩) (fun k3 => br_intro (fun k1 => ?_) (fun k1 => br_intro (fun k2 => ?_) (fun k2 => ?_)))
  · refine ⟨⟨acc ++ [92] ++ [c], i + 1⟩, ⟨by simp only; omega, hyes k3, ?_⟩, by simp only; omega, rfl, rfl⟩
    rw [List.append_assoc]; exact step _ (by rw [escC, if_pos (Or.inl (show c = 34 from hB 34 (by omega) k1))]; rfl) k3
  · refine ⟨⟨acc ++ [92] ++ [c], i + 1⟩, ⟨by simp only; omega, hyes k3, ?_⟩, by simp only; omega, rfl, rfl⟩
    rw [List.append_assoc]; exact step _ (by rw [escC, if_pos (Or.inr (show c = 92 from hB 92 (by omega) k2))]; rfl) k3
  · refine ⟨⟨acc ++ [c], i + 1⟩, ⟨by simp only; omega, hyes k3, ?_⟩, by simp only; omega, rfl, rfl⟩
    exact step _ (by rw [escC, if_neg (fun h => h.elim (show c ≠ 34 from hB' 34 (by omega) k1) (show c ≠ 92 from hB' 92 (by omega) k2))]) k3
theorem Qt_con (l : List UInt8) (hl : l.length ≤ 1000) : Con Try.prog 19 [.string (bs l)] [] (.tuple #[.string (quoS (bs l)), .bool (quoB (bs l))]) [] := by
  unfold quoS quoB
  refine con_vc (E := E0) mixed (calls_envN _) (lok_envN _) (M := mQt) (lm_one Qt_piece) (Qt_vc l _ _) ?_
  simp only [ofNat_eq, toNat_cast, Nat.zero_add, Nat.add_zero, Nat.mul_one, List.drop_zero, bCells_len, bCells_drop, bCells_take, bCells_app, bCells_one, bCells_plain, List.length_replicate, List.length_append, List.length_take, List.length_drop, List.take_length, and_true, true_and, and_self, decide_true, List.length_nil, List.length_cons, Nat.sub_zero, dB_mk, dB_ro, List.take_zero, bs_d, bs_nil]
  have hle := escL_len l
  refine ⟨l, hl, rfl, rfl, br_side (fun y hy => ?_) (fun y hy => ?_)⟩
  · obtain ⟨h1, rfl⟩ := hy
    refine br_dec (by simp; omega) ⟨?_, h1⟩
    rw [if_pos (show okQ (L (bs l)) = true from h1), show (⟨#[34]⟩ : ByteArray) = bs [34] from rfl, bs_app]; rfl
  · have hy : okQ l = false := hy
    exact ⟨by rw [if_neg (show ¬ okQ (L (bs l)) = true by rw [L_bs, hy]; simp)], hy⟩
theorem quoS_bs (l : List UInt8) (h : okQ l = true) : quoS (bs l) = bs (quoL l) := by unfold quoS; rw [L_bs, if_pos h]
theorem quoB_bs (l : List UInt8) : quoB (bs l) = okQ l := rfl
theorem quoS_len (l : List UInt8) : (L (quoS (bs l))).length ≤ 2 * l.length + 2 := by
  unfold quoS; rw [L_bs, L_bs]
  have := quoL_len l
  split
  · exact this
  · simp
/-- What a quoted text stands for. -/
theorem unq_esc : ∀ l : List UInt8, okQ l = true → unq (escL l) = some l
  | [], _ => rfl
  | c :: l, h => by
    unfold okQ at h
    rw [List.all_cons, Bool.and_eq_true] at h
    have hc : ctlN c.toNat = false := by simpa using h.1
    have ih := unq_esc l h.2
    rw [show c :: l = [c] ++ l from rfl, escL_app, escL_one]
    unfold escC
    split
    · rename_i hx
      rw [List.cons_append, List.singleton_append, unq_b _ _ _ (by decide) rfl, if_neg (by simp [hc]), ih]; rfl
    · rename_i hx
      rw [List.singleton_append, unq_o _ _ (fun e => hx (Or.inl e)) (fun e => hx (Or.inr e)), if_neg (by simp [hc]), ih]; rfl
theorem tok_quo (l : List UInt8) : tokL (quoL l) = false := by
  unfold tokL allTk quoL
  have : tokN 34 = false := by decide
  simp [this]
theorem unqL_quo (l : List UInt8) (h : okQ l = true) : unqL (quoL l) = some l := by
  have t := tok_quo l
  unfold unqL
  rw [if_neg (by simp [t])]
  unfold quoL
  have hl := (escL_len l).1
  rw [if_neg (by simp)]
  simp [unq_esc l h]
/-- A quoted text, gone through by the splitter. -/
theorem spl_esc : ∀ (l cur r : List UInt8), spl true cur (escL l ++ r) = spl true (cur ++ escL l) r
  | [], cur, r => by simp [escL]
  | c :: l, cur, r => by
    rw [show c :: l = [c] ++ l from rfl, escL_app, escL_one]
    by_cases hx : c = 34 ∨ c = 92
    · have e : escC c = [92, c] := by unfold escC; rw [if_pos hx]
      rw [e, List.append_assoc, List.cons_append, List.singleton_append, spl_b _ _ _ _ _ (by decide) ⟨rfl, rfl⟩, spl_esc l]
      simp
    · have e : escC c = [c] := by unfold escC; rw [if_neg hx]
      rw [e, List.append_assoc, List.singleton_append, spl_o _ _ _ _ (fun e => hx (Or.inl e)) (fun h => hx (Or.inr h.2)) (by simp), spl_esc l]
      simp
theorem spl_quo (l cur r : List UInt8) : spl false cur (quoL l ++ r) = spl false (cur ++ quoL l) r := by
  unfold quoL
  rw [List.cons_append, List.append_assoc, spl_q _ _ _ _ rfl]
  rw [show (!false) = true from rfl, spl_esc, List.singleton_append, spl_q _ _ _ _ rfl]
  simp
end Go.Proofs.Ytllpeacofilbcaa.tk
