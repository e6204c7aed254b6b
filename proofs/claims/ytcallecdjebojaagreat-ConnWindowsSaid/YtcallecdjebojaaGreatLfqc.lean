/- Frames written and read: the mathematics. -/
import Derived.Test.YtcallecdjebojaaGreatSz9
import Derived.Test.YtcallecdjebojaaGreatRows
import Derived.Test.YtcallecdjebojaaGreatLffc
set_option maxRecDepth 20000
set_option linter.unusedSimpArgs false
set_option linter.unusedVariables false
namespace Go.Proofs.YtcallecdjebojaaGreat.fe
open Go Go.Ev Go.Sy Go.RowKit Go.Proofs.YtcallecdjebojaaGreat.s9 Go.Proofs.YtcallecdjebojaaGreat.fd Go.Proofs.YtcallecdjebojaaGreat.gl
theorem by8_nat (m : Nat) : (by8 (m : Int)).toNat = m % 256 := by
  unfold by8
  rw [wru8, show ((m : Int) % 256) = ((m % 256 : Nat) : Int) by omega, Int.toNat_natCast, u8_toNat_ofNat (by omega)]
theorem shr_nat (m k : Nat) (h : k ≤ 64) : ishr .i64 (m : Int) (k : Int) = ((m / 2 ^ k : Nat) : Int) := ishr_nat h
theorem bt_app {h x : List UInt8} {i : Nat} (hi : i < h.length) : bt (h ++ x) i = bt h i := by
  unfold bt; rw [List.getD_eq_getElem?_getD, List.getElem?_append_left hi, ← List.getD_eq_getElem?_getD]
theorem head_bt (n t f s : Nat) : bt (headB n t f s) 0 = n / 65536 % 256 ∧ bt (headB n t f s) 1 = n / 256 % 256 ∧ bt (headB n t f s) 2 = n % 256 ∧ bt (headB n t f s) 3 = t % 256 ∧ bt (headB n t f s) 4 = f % 256 ∧
    bt (headB n t f s) 5 = s / 16777216 % 256 ∧ bt (headB n t f s) 6 = s / 65536 % 256 ∧ bt (headB n t f s) 7 = s / 256 % 256 ∧ bt (headB n t f s) 8 = s % 256 := by
  have e16 := shr_nat n 16 (by omega)
  have e8 := shr_nat n 8 (by omega)
  have s24 := shr_nat s 24 (by omega)
  have s16 := shr_nat s 16 (by omega)
  have s8 := shr_nat s 8 (by omega)
  simp only [Int.cast_ofNat_Int] at e16 e8 s24 s16 s8
  unfold headB bt
  refine ⟨?_, ?_, ?_, ?_, ?_, ?_, ?_, ?_, ?_⟩ <;> simp only [List.getD_cons_zero, List.getD_cons_succ]
  · rw [e16, by8_nat]
  · rw [e8, by8_nat]
  · rw [by8_nat]
  · rw [by8_nat]
  · rw [by8_nat]
  · rw [s24, by8_nat]
  · rw [s16, by8_nat]
  · rw [s8, by8_nat]
  · rw [by8_nat]
theorem fr_put (p rest : List UInt8) (t f s : Nat) (ht : t < 256) (hf : f < 256) (hs : s < 2147483648) (hp : p.length < 16777216) :
    lenF (headB p.length t f s ++ (p ++ rest)) = p.length ∧ fr1 (headB p.length t f s ++ (p ++ rest)) = ⟨t, f, s, p⟩ ∧ (headB p.length t f s ++ (p ++ rest)).drop (9 + p.length) = rest := by
  obtain ⟨h0, h1, h2, h3, h4, h5, h6, h7, h8⟩ := head_bt p.length t f s
  have hl : (headB p.length t f s).length = 9 := rfl
  have a : ∀ i, i < 9 → bt (headB p.length t f s ++ (p ++ rest)) i = bt (headB p.length t f s) i := fun i hi => bt_app (by rw [hl]; exact hi)
  have e1 : lenF (headB p.length t f s ++ (p ++ rest)) = p.length := by
    unfold lenF
    rw [a 0 (by omega), a 1 (by omega), a 2 (by omega), h0, h1, h2]; omega
  have e2 : strF (headB p.length t f s ++ (p ++ rest)) = s := by
    unfold strF
    rw [a 5 (by omega), a 6 (by omega), a 7 (by omega), a 8 (by omega), h5, h6, h7, h8]; omega
  refine ⟨e1, ?_, ?_⟩
  · unfold fr1
    rw [e1, e2, a 3 (by omega), a 4 (by omega), h3, h4, Nat.mod_eq_of_lt ht, Nat.mod_eq_of_lt hf, List.take_add, show (9 : Nat) = (headB p.length t f s).length from rfl, List.take_left, List.drop_left, List.drop_left, List.take_left]
  · rw [← List.drop_drop, show (9 : Nat) = (headB p.length t f s).length from rfl, List.drop_left, List.drop_left]
theorem run_one (m : Int) (n : Nat) (p rest : List UInt8) (t f s : Nat) (ht : t < 256) (hf : f < 256) (hs : s < 2147483648) (hp : p.length < 16777216) (hm : (p.length : Int) ≤ m) (hn : (headB p.length t f s ++ (p ++ rest)).length ≤ n) :
    run m n (headB p.length t f s ++ (p ++ rest)) = (⟨t, f, s, p⟩ :: (run m n rest).1, 9 + p.length + (run m n rest).2.1, (run m n rest).2.2) := by
  obtain ⟨e1, e2, e3⟩ := fr_put p rest t f s ht hf hs hp
  have hl : (headB p.length t f s ++ (p ++ rest)).length = 9 + (p.length + rest.length) := by rw [List.length_append, List.length_append]; rfl
  rw [run_step m hn, e1, e2, e3, if_neg (by omega), if_neg (by omega), if_neg (by omega)]
theorem run_nil (m : Int) (n : Nat) : run m n [] = ([], 0, false) := by
  rw [run_step m (Nat.zero_le n), if_pos (by simp)]
end Go.Proofs.YtcallecdjebojaaGreat.fe
